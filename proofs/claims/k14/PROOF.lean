import PyProof.Rows.All
import Wide.All
import OpenK.AllK
import Wide.FinOn
import KE.OsRunLaw
import KE.RegKSuper
import HandS.Head2
import HandS.ForMost
import HandS.OwnEq
import HandS.IsInst
import HandS.Wide
import HandS.EndBits
import HandS.Property
import KE.LtData
import HandS.NamedTupSort
import HandS.Exc
import HandS.ExcInit
import HandS.ExcIs
import HandS.ExcField
import HandS.TryOnly
import HandS.Lambda
import HandS.ClsMeth
import HandS.MakeKwOnly
import KE.KOpsOwn
import HandS.WordsExc
import HandS.WordsDict
import HandS.Codes
import HandS.Walk
import HandS.Iter
import KE.GoesEnum
import KE.GoesMore
import KE.KSuper
import HandS.Zip
import HandS.More
import HandS.Dict
import HandS.List
import PyProof.ReprRoads
import PyProof.StrBlock2
import HandS.Words
import PyProof.StrLawsRepr
import HandS.Text
import KE.SortData
import HandS.RaiseMore
import KE.KCallOwn
import HandS.Star
import HandS.EndTab
import PyProof.NeKinds
import PyProof.EqAt
import HandS.Call
import PyProof.StrLawsTight
import PyProof.StrLawsChain
import PyProof.Rows.StrSplitJoin
import PyProof.Rows.StrItems
import PyProof.Rows.StrSplitAre
import PyProof.ReprBulk
import PySem.Challenge.RW_soundtill_k14_rows_moved_and_renamed
set_option Elab.async false
set_option linter.all false
set_option maxRecDepth 100000
set_option maxHeartbeats 8000000
section
open PySem PySem.W PySem.Calls PyProof.Rows
theorem K14.keepH (H : Hook) {p : Prop} (h : p) : p := h
local macro_rules
  | `(tactic| o_headL $H:term) => `(tactic| exact K14.keepH $H (by assumption))
set_option maxHeartbeats 0 in
theorem K14.dummy (h : OpenRow.Holds (OpenLaw.row PySem.Challenge.rw_soundtill_k14_rows_moved_and_renamed)) : OpenRow.Holds (OpenLaw.row PySem.Challenge.rw_soundtill_k14_rows_moved_and_renamed) := by
  k_headL
abbrev K14.R : OpenRow := OpenLaw.row PySem.Challenge.rw_soundtill_k14_rows_moved_and_renamed
def K14.q : Program := view K14.R.prog [0, 2, 3, 4, 5, 6, 7, 9, 10, 11, 12, 13, 14, 15, 16, 17, 18, 19, 20, 21, 22, 23, 24, 25, 27, 28, 29, 30, 31, 32, 33, 34, 35, 36, 37, 38, 39, 40, 41, 42, 43, 44, 46, 47, 48, 49, 50, 51, 52, 53, 54, 55, 56, 57, 58, 59, 60, 61, 62, 63, 64, 65]
def K14.loose : List PySem.Str := [PySem.Str.ofString "FORMS", PySem.Str.ofString "Row", PySem.Str.ofString "SetBy"]
def K14.as : List Addr := [2, 3, 15, 17, 18, 20, 21, 22, 29, 30, 31, 32, 35, 42, 44, 45, 47, 48, 49, 50, 51, 54, 61, 63, 64, 66, 67, 68, 69, 70, 73, 80, 82, 83, 85, 86, 87, 88, 89, 92, 99, 101, 102, 104, 105, 106, 107, 108, 111, 118, 120, 121, 123, 124, 125, 126, 127, 130, 131, 133, 134, 136, 137, 138, 140, 141, 143, 144, 145, 148, 149, 150, 152, 153, 155, 156, 157, 160, 161, 162, 164, 165, 167, 168, 169, 171, 172, 174, 175, 176, 178, 179, 181, 182, 183, 186, 187, 188, 190, 191, 193, 194, 195, 197, 198, 200, 201, 202, 203, 204, 205, 206, 207, 208, 209, 210, 211, 212, 213, 215, 216, 218, 219, 227, 228, 230, 231, 233, 234, 235, 236, 237, 238, 240, 241, 243, 244, 245, 246, 248, 249, 251, 252, 253, 254, 256, 257, 259, 260, 261, 262, 265, 266, 267, 269, 270, 272, 273, 274, 277, 278, 279, 282, 283, 284, 286, 287, 289, 290, 291, 294, 295, 296, 297, 298, 299, 300, 303, 310, 311, 312, 315, 322, 323, 324, 327, 334, 336, 337, 339, 340, 341, 342, 343, 346, 353, 355, 356, 358, 359, 360, 362, 363, 365, 366, 367, 368, 369, 372, 379, 381, 382, 384, 385, 386, 388, 389, 391, 392, 393, 394, 395, 398, 405, 407, 408, 410, 411, 412, 414, 415, 417, 418, 419, 420, 421, 424, 431, 433, 434, 436, 437, 438, 440, 441, 443, 444, 445, 446, 447, 450, 457, 459, 460, 462, 463, 464, 466, 467, 469, 470, 471, 472, 473, 476, 483, 485, 486, 488, 489, 490, 492, 493, 495, 496, 497, 498, 499, 502, 505, 510, 511, 513, 514, 516, 517, 518, 520, 521, 523, 524, 525, 526, 527, 530, 533, 538, 539, 541, 542, 544, 545, 546, 548, 549, 551, 552, 553, 554, 555, 558, 561, 566, 567, 569, 570, 572, 573, 574, 576, 577, 579, 580, 581, 582, 583, 586, 589, 594, 595, 597, 598, 600, 601, 602, 604, 605, 607, 608, 609, 610, 611, 614, 616, 617, 619, 620, 621, 623, 624, 626, 627, 628, 630, 631, 633, 634, 635, 637, 638, 640, 641, 642, 644, 645, 647, 648, 649, 651, 652, 654, 655, 656, 659, 660, 661, 663, 664, 666, 667, 668, 670, 671, 673, 674, 675, 677, 678, 680, 681, 682, 684, 685, 687, 688, 689, 692, 693, 699, 702, 703, 704, 706, 707, 709, 710, 711, 713, 714, 716, 717, 718, 720, 721, 723, 724, 725, 728, 729, 730, 732, 733, 735, 736, 737, 740, 741, 742, 745, 746, 747, 749, 750, 752, 753]
theorem K14.as_eq (P : Params) : K14.as = (K14.dummy.heap_1 P).map (·.1) := by kernel_rfl
def K14.Run (w : World) : Prop := ∀ os : OsState, (HeadRun.endF (HeadRun.stepQ (HeadRun.denQ HeadRun.tabQ) K14.R.prog w) 15300 K14.R.prog w os).map (fun s => (HeadRun.looksF K14.R.prog (boot_heap w.params) s.abs, HeadRun.seenQ K14.q K14.loose (importedModules K14.R.prog.main.body) (fun s => xlAt K14.q [] s && recOk (RowW.records K14.R.toRowW) s) s.abs, K14.as.map (HeadRun.getT s))) = some (true, openGood K14.q K14.loose, (K14.dummy.heap_1 w.params).map fun x => some x.2)
end

section
open PySem PySem.W PySem.Calls PyProof.Rows
theorem K14.runF (w : World) : K14.Run (w.withFollow "special-get-raises" false) := by
  intro os
  kernel_rfl
theorem K14.runT (w : World) : K14.Run (w.withFollow "special-get-raises" true) := by
  intro os
  kernel_rfl
theorem K14.byRowAll (row : String) {P : World → Prop} (hf : ∀ w : World, P (w.withFollow row false)) (ht : ∀ w : World, P (w.withFollow row true)) : ∀ w, P w := fun w => byRow2 row hf ht w
end

/-! So: rules of our own over the hand layer. Runs whose guards are known (for repr), repr of data, == and != by an own __eq__ with both answers, < of data, a method's call with keywords. -/
namespace So
open PySem PySem.Spec PyProof.Rows L2

/-! ### repr of data -/
mutual
theorem dp_noDict {K : PySem.W.Frag} {H : Hp} : ∀ (d : PyData) (v : V), Dp K H v d → d.hasDict = false
  | .none, _, _ => rfl
  | .bool _, _, _ => rfl
  | .int _, _, _ => rfl
  | .str _, _, _ => rfl
  | .list ds, _, h => by
    cases h with
    | lst _ ha => simpa [PyData.hasDict] using dp_noDictAll ds _ ha
  | .tuple ds, _, h => by
    cases h with
    | tup _ ha => simpa [PyData.hasDict] using dp_noDictAll ds _ ha
  | .dict _, _, h => by cases h
theorem dp_noDictAll {K : PySem.W.Frag} {H : Hp} : ∀ (ds : List PyData) (vs : List V), DpAll K H vs ds → PyData.hasDictAll ds = false
  | [], _, _ => rfl
  | d :: ds, _, h => by
    cases h with
    | cons h1 h2 => simp [PyData.hasDictAll, dp_noDict d _ h1, dp_noDictAll ds _ h2]
end

/-- repr(x): what it asks -/
def rRepr (K : PySem.W.Frag) : List V → Hp → VK → Prop := fun xs H Q => ∃ v d, xs = [v] ∧ Dp K H v d ∧ d.showable = true ∧ d.depth ≤ 60 ∧ d.shown.length ≤ sizeLine ∧ Q (.str d.shown) H
section
variable {X : Cx}
theorem call_reprD (hg : X.A.guards = some []) (hu : X.A.units + 64 < cLine) : CallR X (.builtin "repr") (rRepr X.K) := by
  intro pins s σ H xs us Q I r h
  obtain ⟨v, d, rfl, hd, hs, hdep, hz, q⟩ := h
  obtain ⟨u, rfl, rv⟩ := vals1 r
  obtain ⟨as, rd⟩ := Dp.reads I d v u hd rv
  have nd : d.hasDict = false := dp_noDict d v hd
  cases v with
  | ref a =>
    cases rv
    refine repr_of_reads' rd hs (fun z => by rw [nd] at z; cases z) hg (by omega) (fun _ _ e => e) (fun h' t tk k => ?_) hz
    exact ⟨.str d.shown, H, I.kept k, ⟨t, rfl⟩, q⟩
  | non =>
    cases hd
    cases rv
    exact PySem.P.repr_of_none ⟨.str _, H, I.tok _, ⟨_, rfl⟩, q⟩
  | bl b =>
    cases hd
    cases rv
    refine PySem.P.repr_of_bool ⟨.str (PyData.shown (.bool b)), H, I.tok _, ⟨s.toks, ?_⟩, q⟩
    cases b <;> rfl
  | int i =>
    cases hd
    obtain ⟨t, rfl⟩ := rv
    exact PySem.P.repr_of_int (by simpa [PyData.showable] using hs) ⟨.str _, H, I.tok _, ⟨_, rfl⟩, q⟩
  | str x =>
    cases hd
    obtain ⟨t, rfl⟩ := rv
    exact PySem.P.repr_of_str ⟨.str _, H, I.tok _, ⟨_, rfl⟩, q⟩ hz
  | byt b => cases hd
  | flt b => cases hd
  | ty n => cases hd

/-! ### < of data -/
def rLtD (K : PySem.W.Frag) : R2 := fun x y H Q => ∃ d e, Dp K H x d ∧ Dp K H y e ∧ PySem.W.alike d e = true ∧ d ≠ .none ∧ d.depth ≤ 60 ∧ Q (.bl (PySem.W.dataLt d e)) H
theorem op_ltD (hu : X.A.units + 64 < cLine) : OpR X (compareOp .Lt) (rLtD X.K) := by
  intro pins s σ H x y v u Q I rx ry h
  obtain ⟨d, e, hd, he, al, nn, dep, q⟩ := h
  obtain ⟨as, r1⟩ := Dp.reads I d x v hd rx
  obtain ⟨bs, r2⟩ := Dp.reads I e y u he ry
  have hm : min d.depth e.depth ≤ d.depth := Nat.min_le_left _ _
  exact PySem.W.rcLt_alike d e X.A s v u as bs r1 r2 al nn (by omega) _ _ _ _ ⟨.bl _, H, I, rfl, q⟩
end
end So

namespace So
open PySem PySem.Spec PyProof.Rows L2

/-! ### == and != by an own __eq__, both answers -/
/-- x is an instance of C, y of a type that is no class below C; the own __eq__ answers b -/
def rOwn (C : Addr) (K : PySem.W.Frag) (sp : Sp) (E : XK) (g : Bool → Bool) : R2 := fun x y H Q => ∃ a dx fs t, x = .ref a ∧ H a = some (.ins C dx fs) ∧ TyX K H y t ∧ PySem.W.notFirst K C t = true ∧
  sp [.ref a, y] H (fun v H' => ∃ b, v = .bl b ∧ Q (.bl (g b)) H') E
section
variable {X : Cx} {CX : CXT} {k : Nat} {C f : Addr} {fd : FuncData} {ps : List Str} {sp : Sp} {E : XK}
/-- what is wanted of a comparison's answer -/
def BlP (X : Cx) (pins : List (Addr × Obj)) (σ : L2.St) (g : Bool → Bool) (Q : VK) (v : Value) (s' : Shared) : Prop := ∃ b H', v = .bool b ∧ Inv X pins σ H' s' ∧ Q (.bl (g b)) H'
theorem run_eq {pins : List (Addr × Obj)} {s : Shared} {σ : L2.St} {H : Hp} {a dx : Addr} {fs : List (Str × V)} {y : V} {u : Value} {Q : VK} {g : Bool → Bool} {A : Around} (F : FnOk X.prog X.w X.K X.mg X.base CX k f fd ps sp) (hb : Binds X.K fd ps [])
    (hx : Passes CX X E) (hr : Room k A) (hf : A.frames = X.A.frames) (I : Inv X pins σ H s) (ry : RelV y u) (h : sp [.ref a, y] H (fun v H' => ∃ b, v = .bl b ∧ Q (.bl (g b)) H') E) :
    wpAny (model X.prog X.w) A (call (.ref f) [.ref a, u]) (fun v s' => BlP X pins σ g Q v s') X.xe s := by
  have e0 : Env0 X.prog X.w X.K X.mg X.base A X.stack s H := by
    have e := I.env0
    exact ⟨hf.trans e.frames, e.mod, e.bs, e.bsz, e.funs, e.frf, e.hok, e.bare⟩
  have hl : ([Value.ref a, u] ++ ([] : List Value)).length = ps.length := (F.len _ _ _ _ h : [V.ref a, y].length = ps.length)
  refine wpAny_call (codeAny_mono (F.run A X.stack s H ⟨[.ref a, u], []⟩ ([.ref a, u] ++ []) [.ref a, y] _ E hr e0 (hb s [.ref a, u] I.kIn hl) (.cons rfl (.cons ry .nil)) h) fun r s' hq => ?_)
  cases r with
  | error e => exact hx pins σ H s e s' I hq
  | ok fl =>
    cases fl with
    | ret w =>
      obtain ⟨z, H', I', rz, b, ez, q⟩ := I.after hq
      subst ez
      cases rz
      exact ⟨b, H', rfl, I', q⟩
    | next => exact False.elim hq
    | brk => exact False.elim hq
    | cont => exact False.elim hq

theorem op_eqOwn (F : FnOk X.prog X.w X.K X.mg X.base CX k f fd ps sp) (hs : PySem.W.findIn X.K (.ref C) "__eq__" = some (some (.ref f))) (hf : PySem.W.isFn X.K (.ref f) = true) (hb : Binds X.K fd ps []) (hx : Passes CX X E) (hr : Room k X.A) :
    OpR X (compareOp .Eq) (rOwn C X.K sp E id) := by
  intro pins s σ H x y v u Q I rx ry h
  obtain ⟨a, dx, fs, t, rfl, ha, ty, nf, q⟩ := h
  cases rx
  obtain ⟨mA, J, _⟩ := ins_get I.hok ha
  obtain ⟨od, J, _⟩ := J.look
  obtain ⟨P, Z, p, _⟩ := kit_of I ry ty
  obtain ⟨m, hF⟩ := I.fr
  show wpAny _ _ (richCompare .Eq (.ref a) u) _ _ s
  refine PySem.W.cmp_K (op := .Eq) (tb := t) hr.units0 hF I.ok.mod.kin J (Z.ty _ _ I.kIn p) nf hs hf ?_
  refine wpAny_mono (run_eq (dx := dx) (fs := fs) F hb hx hr rfl I ry q) (fun w s' z => ?_) fun _ _ z => z
  obtain ⟨b, H', rfl, I', q'⟩ := z
  exact ⟨.bl b, H', I', rfl, q'⟩

/-- != where the class has an own __eq__ and object's __ne__ -/
theorem op_neOwn (F : FnOk X.prog X.w X.K X.mg X.base CX k f fd ps sp) (hs : PySem.W.findIn X.K (.ref C) "__eq__" = some (some (.ref f))) (hf : PySem.W.isFn X.K (.ref f) = true) (hb : Binds X.K fd ps []) (hx : Passes CX X E) (hr : Room (k + 1) X.A)
    (hn : PySem.W.findIn X.K (.ref C) "__ne__" = some (some (.builtin "object.__ne__"))) (hm : PySem.W.mroIn X.K C (.type "object") = some true) : OpR X (compareOp .NotEq) (rOwn C X.K sp E not) := by
  intro pins s σ H x y v u Q I rx ry h
  obtain ⟨a, dx, fs, t, rfl, ha, ty, nf, q⟩ := h
  cases rx
  obtain ⟨mA, J, _⟩ := ins_get I.hok ha
  obtain ⟨od, J, _⟩ := J.look
  obtain ⟨P, Z, p, _⟩ := kit_of I ry ty
  have KI := I.kIn
  have hb' := Z.ty (model X.prog X.w) _ I.kIn p
  have hu : X.A.units < cLine := hr.units0
  show wpAny _ _ (richCompare .NotEq (.ref a) u) _ _ s
  have one : wpAny (model X.prog X.w) X.A (tryCompare (.ref a) "__ne__" u) (fun r s' => ∃ v, r = some v ∧ EP X pins σ Q v s') X.xe s := by
    unfold tryCompare
    refine wpAny_bind (NtL.csib (J.type.andThen (PySem.W.looks_findIn KI hn)) (PySem.F.cmp_object.ne.bind _) (wpAny_call (codeAny_call_builtin PySem.F.cmp_object.ne.plain PySem.F.cmpEntry_ne (PySem.W.check_slot PySem.F.cmpKind_ne PySem.F.cmpSplit_ne (J.type.andThen (PySem.W.looks_mroIn KI hm)) (PySem.F.cmpArgs_ne _ _) ?_))))
    unfold Builtin.«object.__ne__»
    refine wpAny_bind (wpAny_of_eq (a := ((Value.ref a : Value), [u])) (by first | rfl | (simp only [slotArgs]; rfl)) ?_)
    refine wpAny_bind (wpAny_cRoomFor (by show X.A.units + 1 < cLine; have := hr.units; omega) ?_)
    refine wpAny_bind (PySem.W.ifBound_K KI J hs hf (wpAny_mono (run_eq (dx := dx) (fs := fs) F hb hx hr.in1 rfl I ry q) (fun w s' z => ?_) fun _ _ z => z))
    obtain ⟨b, H', rfl, I', q'⟩ := z
    refine wpAny_bind (wpAny_truthy_bool ?_)
    refine wpAny_pure ?_
    exact wpAny_pure ⟨_, rfl, .bl (!b), H', I', rfl, q'⟩
  unfold richCompare
  simp only [oneThing_ref]
  refine wpAny_holding (wpAny_bind (wpAny_cRoomFor hu ?_))
  refine wpAny_bind (J.type.here (wpAny_bind (hb'.here ?_)))
  have fin : wpAny (model X.prog X.w) X.A (tryCompare (.ref a) "__ne__" u) (fun r s' => ∃ v, r = some v ∧ EP X pins σ Q v s') X.xe s := one
  split
  · rename_i z
    have e : PySem.W.subIn X.K t (.ref C) = some false := by
      rcases Bool.or_eq_true_iff.mp nf with e | e
      · rw [beq_iff_eq.mp e] at z; simp at z
      · exact beq_iff_eq.mp e
    refine wpAny_bind ((PySem.W.looks_subIn KI e).here ?_)
    simp only [Bool.false_eq_true, if_false]
    exact wpAny_bind (wpAny_mono fin (fun r s' z => by obtain ⟨v, rfl, hq⟩ := z; exact wpAny_pure hq) fun _ _ e => e)
  · refine wpAny_bind (wpAny_pure ?_)
    simp only [Bool.false_eq_true, if_false]
    exact wpAny_bind (wpAny_mono fin (fun r s' z => by obtain ⟨v, rfl, hq⟩ := z; exact wpAny_pure hq) fun _ _ e => e)
end
end So

namespace So
open PySem PySem.Spec PyProof.Rows L2

/-! ### runs in which no repr is under way -/
/-- as FnOk, where no repr is under way at the call -/
structure FnG (P : Program) (w : World) (K : PySem.W.Frag) (mg : Str → Option Value) (base : Heap) (CX : CXT) (k : Nat) (f : Addr) (fd : FuncData) (ps : List Str) (sp : Sp) : Prop where
  lenG : ∀ (vs : List V) (H : Hp) (Q : VK) (E : XK), sp vs H Q E → vs.length = ps.length
  runG : ∀ (A : Around) (outer : List Env) (s : Shared) (H : Hp) (args : Args) (us : List Value) (vs : List V) (Q : VK) (E : XK), A.guards = some [] → Room k A → Env0 P w K mg base A outer s H →
    BindsTo s fd args (ps.zip us) → Vals vs us → sp vs H Q E → codeAny (model P w) A (.call (.ref f) args) (CR CX outer P w H s Q E) s
section
variable {P : Program} {w : World} {K : PySem.W.Frag} {mg : Str → Option Value} {base : Heap} {CX : CXT} {sp : Sp} {fd : FuncData} {ps N : List Str} {k : Nat} {f : Addr}
theorem FnG.ofOk (F : FnOk P w K mg base CX k f fd ps sp) : FnG P w K mg base CX k f fd ps sp :=
  ⟨F.len, fun A outer s H args us vs Q E _ => F.run A outer s H args us vs Q E⟩
/-- a def by its body, as the layer's rule, the guards told -/
theorem fnG_of {x qual : Str} {st : Stmt} (F : Fun K x qual st f fd) (S : FnScope N ps (defScope st)) (len : ∀ vs H Q E, sp vs H Q E → vs.length = ps.length)
    (hbody : ∀ (cdv : Value) (A : Around) (outer : List Env) (s : Shared) (H : Hp) (vs : List V) (Q : VK) (E : XK), A.guards = some [] → Room k (A.deeper (envOfC qual (defScope st) s.heap.objs.size f cdv)) → sp vs H Q E →
      ∃ t, PSs (cxOf CX P w K mg base N qual (defScope st) f cdv A outer s H E).nox (defBody st) t ∧ t { nx := fun _ H' => Q .non H', rt := Q } (start N vs) H) : FnG P w K mg base CX (k + 1) f fd ps sp := by
  obtain ⟨oc, od, kV, doc, pm, an, cdv, ct, osl, rfl, lk, hcd⟩ := F.ex
  constructor
  · exact len
  intro A outer s H args us vs Q E hg hr e0 hb r hsp
  have old : ∀ b o, base.get? b = some o → s.heap.get? b = some o := fun b o e => (e0.bs b o e).1
  have KX := e0.mod.kin.keeps old
  have lim := e0.mod.nolimit.keeps old
  refine codeAny_call_function hr.depth (KX _ _ lk) rfl S.co S.gen rfl (PySem.W.codeRec_of KX hcd) (hb _ _ _ _ ?_)
  refine wpAny_newFunctionEnv_cells S.kind (fun y hy => ?_) fun env he s1 x => ?_
  · rcases S.par y.1 (List.of_mem_zip (show (y.1, y.2) ∈ ps.zip us from hy)).1 with q | q
    · exact Or.inl q
    · exact Or.inr (And.intro q (PySem.W.cellsFrom_some _ _ _ (Or.inl q)))
  subst he
  refine And.intro (lim.keeps x.toInCall.keep) (codeAny_func ?_)
  obtain ⟨t, ht, hq⟩ := hbody cdv A outer s H vs Q E hg (hr.deeper _) hsp
  refine wpAny_mono (ht.nox.run [] s1 (start N vs) H _ (inv_start S hr.hd e0 (len _ _ _ _ hsp) r x) hq) (fun fl s' hs => ?_) fun _ _ hs => hs
  match fl, hs with
  | .ret u, ⟨v, σ', H', J, rv, q⟩ => exact ⟨v, H', J.os, J.bare, J.base, J.hok, rv, q⟩
  | .next, ⟨σ', H', J, q⟩ => exact ⟨V.non, H', J.os, J.bare, J.base, J.hok, rfl, q⟩
  | .brk, ⟨_, _, _, q⟩ => exact q.elim
  | .cont, ⟨_, _, _, q⟩ => exact q.elim
end

/-! ### calls -/
section
variable {X : Cx} {CX : CXT} {k : Nat} {f C : Addr} {fd : FuncData} {ps ks : List Str} {sp : Sp} {E : XK} {x m : Str} {p pos apos : Pos} {e o : Expr} {es : List Expr} {kws : List Keyword} {ta : TE} {t tk : TA} {dvs : List V} {ds : List Value}
theorem run_fnG {pins : List (Addr × Obj)} {σ : L2.St} {H : Hp} {s : Shared} {Q : VK} {us : List Value} {vs : List V} (F : FnG X.prog X.w X.K X.mg X.base CX k f fd ps sp) (hg : X.A.guards = some []) (hr : Room k X.A) (hb : Binds X.K fd ps ds) (hd : Vals dvs ds)
    (hx : Passes CX X E) (I : Inv X pins σ H s) (r : Vals vs us) (h : sp (vs ++ dvs) H Q E) : wpAny (model X.prog X.w) X.A (call (.ref f) us) (EP X pins σ Q) X.xe s := by
  have r2 := r.append hd
  have hl : (us ++ ds).length = ps.length := r2.length.symm.trans (F.lenG _ _ _ _ h)
  refine wpAny_call (codeAny_mono (F.runG X.A X.stack s H ⟨us, []⟩ (us ++ ds) (vs ++ dvs) Q E hg hr I.env0 (hb s us I.kIn hl) r2 h) fun r s' hq => ?_)
  match r, hq with
  | .error e, hq => exact hx pins σ H s e s' I hq
  | .ok (.ret u), hq => exact I.after hq
  | .ok .next, hq => exact hq.elim
  | .ok .brk, hq => exact hq.elim
  | .ok .cont, hq => exact hq.elim
/-- f(e, ..), f by FnG -/
theorem pe_callG (F : FnG X.prog X.w X.K X.mg X.base CX k f fd ps sp) (hg : X.A.guards = some []) (hr : Room k X.A) (hgl : Gl X x) (hm : X.mg x = some (.ref f)) (hk : PySem.W.keepIn X.K (.ref f) = true) (hb : Binds X.K fd ps ds) (hd : Vals dvs ds) (hx : Passes CX X E)
    (ha : PA X (e :: es) t) (hdb : (x == ("__debug__" : Str)) = false := by decide) (he : starEach (e :: es) X.env = (false, eval e X.env) :: starEach es X.env := by rfl) (hpl : (backTo pos (starEach es X.env)).any (·.1) = false := by rfl) :
    PE X (.Call (.Name x p) (e :: es) [] pos) (tCall sp dvs E t) := by
  constructor
  intro pins s σ H Q I h
  refine wpAny_Call_Name_kw (ld_glob I hgl hm (PySem.W.callWith_K (h₀ := X.base) I.ok.mod.kin hk (thn (ha.run pos pins s σ H _ I h) fun us s1 q => ?_) he hpl) hdb)
  obtain ⟨vs, H1, I1, r, q⟩ := q
  exact ⟨I1.kIn, run_fnG F hg hr hb hd hx I1 r q⟩
/-- o.m(k = v, ..): keywords alone -/
theorem pe_methK {g : List Value → List Value → List Value} {gV : List V → List V → List V} {pl : Sem Bool} (he : PE X o ta) (c : Cls X.K C) (hm : Meth X.K C m f) (F : FnOk X.prog X.w X.K X.mg X.base CX k f fd ps sp) (hr : Room k X.A) (hb : KBinds X.K fd ps ks g gV)
    (hx : Passes CX X E) (hkw : PK X kws tk) (hall : (backToKw pos (keywordEach kws X.env)).all (·.1.isSome) = true := by rfl) (hks : (backToKw pos (keywordEach kws X.env)).filterMap (·.1) = ks := by rfl)
    (hpl : ((backTo pos (starEach [] X.env)).any (·.1) || (backToKw pos (keywordEach kws X.env)).any (·.1.isNone)) = false := by rfl)
    (ht : eval (.Call (.Attribute o m apos) [] kws pos) X.env = (do
      let ov ← eval o X.env
      standAt apos.atName
      let fx ← holding [ov] (getMethod ov m pl)
      callWith pos fx.1 fx.2 (backTo pos (starEach [] X.env)) (backToKw pos (keywordEach kws X.env))) := by rfl) :
    PE X (.Call (.Attribute o m apos) [] kws pos) (fun σ H Q => ta σ H fun x H1 => ∃ a dx fs, x = .ref a ∧ H1 a = some (.ins C dx fs) ∧ fs.lookup m = none ∧ tk σ H1 fun zs H2 => sp (gV [x] zs) H2 Q E) := by
  constructor
  intro pins s σ H Q I h
  refine PySem.W.methodCall_KW (pl := pl) (thn (he.run pins s σ H _ I h) fun u s1 z => ?_) ht
  obtain ⟨x, H1, I1, rx, a, dx, fs, ex, ea, l, q⟩ := z
  subst ex
  cases rx
  refine getmeth_ok I1 ea c hm l ?_
  refine PySem.W.callWith_KW0 (first := [.ref a]) (h₀ := X.base) I.ok.mod.kin hm.kp hall (thn (hkw.run pos pins s1 σ H1 _ I1 q) fun ws s2 z => ?_) hpl
  obtain ⟨zs, H2, I2, rz, q2⟩ := z
  refine ⟨I2.kIn, ?_⟩
  rw [hks]
  exact run_fnk (us := [.ref a]) (vs := [.ref a]) F hr hb hx I2 (.cons rfl .nil) rz q2
end

/-! ### the end of a law -/
theorem law_callG {P : Program} {w : World} {K : PySem.W.Frag} {mg mb : Str → Option Value} {CX : CXT} {k : Nat} {fa a : Addr} {fd : FuncData} {x : Str} {sp : Sp} {s₁ : Shared} {vs : List Value} {ns : List Int}
    (KX : K.In s₁.heap) (hns : s₁.heap.Ns mainGlobals mg) (hb : s₁.heap.Ns builtinsNs mb) (hbb : ∀ x : Str, x ≠ "__name__" → mb x = bootBuiltins x) (hlim : s₁.heap.NoLimit) (hg : s₁.gens = #[])
    (ha : s₁.heap.get? a = some { cls := .type "list", data := .seq vs.toArray }) (hi : IntsAre vs ns) (hl : ns.length ≤ sizeLine) (hr : Room k callerA)
    (F : ∀ base : Heap, K.In base → base.Ns mainGlobals mg → FnG P w K mg base CX k fa fd [x] sp) (hbind : ∀ (s : Shared) (u : Value), BindsTo s fd ⟨[u], []⟩ [(x, u)])
    (hsp : ∀ H : Hp, Only H → SqL K H a (ns.map V.int) → sp [.ref a] H (fun v _ => v = .bl true) fun _ _ _ => False)
    (hCX : ∀ H e s', CX [] H s₁ (fun _ _ _ => False) e s' → False) :
    codeAny (model P w) callerA (.call (.ref fa) ⟨[.ref a], []⟩) (fun r s' => r = .ok (.ret (.bool true)) ∧ OldK s₁.heap s'.heap ∧ s'.os = s₁.os ∧ AllBare s'.gens) s₁ := by
  -- the call itself, for a heap in which the script alone may be tracked
  have go : ∀ H : Hp, Only H → SqL K H a (ns.map V.int) → HOk P w H s₁.heap → (∀ b u, H b = some u → b = a ∧ K.lookup a = none) →
      codeAny (model P w) callerA (.call (.ref fa) ⟨[.ref a], []⟩) (fun r s' => r = .ok (.ret (.bool true)) ∧ OldK s₁.heap s'.heap ∧ s'.os = s₁.os ∧ AllBare s'.gens) s₁ := by
    intro H hO hS hok hA
    have free : ∀ b : Addr, (b ≠ a ∨ K.lookup a ≠ none) → H b = none := by
      intro b z
      cases q : H b with
      | none => rfl
      | some u => exact (z.elim (fun z => z (hA b u q).1) fun z => z (hA b u q).2).elim
    have notSeq : ∀ {b : Addr} {m : Str → Option Value}, s₁.heap.Ns b m → b ≠ a := by
      rintro b m ⟨o, es, ep, e, d, _⟩ rfl
      rw [ha] at e
      cases e
      cases d
    have inH : ∀ {b : Addr} {m : Str → Option Value}, s₁.heap.Ns b m → (hidT s₁.heap H).Ns b m := by
      intro b m n
      have nb := free b (Or.inl (notSeq n))
      obtain ⟨o, es, ep, e, r⟩ := n
      exact ⟨o, es, ep, hidT_get e nb, r⟩
    have kin : K.In (hidT s₁.heap H) := by
      intro b o e
      refine hidT_get (KX b o e) ?_
      by_cases hb : b = a
      · exact free b (Or.inr (by rw [← hb, e]; exact fun z => nomatch z))
      · exact free b (Or.inl hb)
    have lim2 : (hidT s₁.heap H).NoLimit := by
      obtain ⟨mc, h1, h2⟩ := hlim
      exact ⟨mc, inH h1, h2⟩
    have e0 : Env0 P w K mg (hidT s₁.heap H) callerA [] s₁ H := by
      refine ⟨rfl, ⟨kin, inH hns, ⟨mb, inH hb, hbb⟩, lim2⟩, fun b o e => of_hidT e, Nat.le_of_eq (hidT_size _ _), True.intro, ?_, hok, .of_eq hg⟩
      intro b hb
      cases hb
    refine codeAny_mono ((F _ kin (inH hns)).runG callerA [] s₁ H ⟨[.ref a], []⟩ [.ref a] [.ref a] _ _ rfl hr e0 (hbind s₁ (.ref a)) (.cons rfl .nil) (hsp H hO hS)) fun r s' h => ?_
    match r, h with
    | .error e, h => exact (hCX H e s' h).elim
    | .ok .next, h => exact h.elim
    | .ok .brk, h => exact h.elim
    | .ok .cont, h => exact h.elim
    | .ok (.ret u), ⟨v, H', os, bare, un, hok', rv, q⟩ =>
      have q2 : v = .bl true := q
      subst q2
      cases rv
      refine ⟨rfl, OldK.of_keep (fun b o e => ?_), os, bare⟩
      rcases hO b with z | ⟨ob, xs, z⟩
      · exact un.keep b o e z (fun z => nomatch z) (fun z => nomatch z)
      · have z1 := (hok b _ z).1
        have z2 := (hok' b _ (un.frzs b ob _ z)).1
        rw [z1] at e
        rw [z2, e]
  have rv := vals_ints hi
  have hlen : (ns.map V.int).length ≤ sizeLine := by rw [List.length_map]; exact hl
  cases hk : K.lookup a with
  | some o =>
    have e := KX a o hk
    rw [ha] at e
    cases e
    exact go (fun _ => none) (fun _ => Or.inl rfl) (Or.inr ⟨_, vs.toArray, _, hk, rfl, rfl, rfl, by rw [List.size_toArray, hi.length]; exact hl, by simpa using rv⟩) (fun b u z => nomatch z) fun b u z => nomatch z
  | none =>
    have at_ : ∀ b u, (if b = a then some (HO.frz { cls := .type "list", data := .seq vs.toArray } (.lst (ns.map V.int))) else none) = some u → b = a ∧ u = .frz { cls := .type "list", data := .seq vs.toArray } (.lst (ns.map V.int)) := by
      intro b u z
      split at z
      · rename_i hb
        exact ⟨hb, (Option.some.inj z).symm⟩
      · cases z
    refine go (fun b => if b = a then some (.frz { cls := .type "list", data := .seq vs.toArray } (.lst (ns.map V.int))) else none) (fun b => ?_) (Or.inl (Or.inr ⟨_, if_pos rfl⟩)) (fun b u z => ?_) fun b u z => ⟨(at_ b u z).1, hk⟩
    · by_cases hb : b = a
      · exact Or.inr ⟨_, _, if_pos hb⟩
      · exact Or.inl (if_neg hb)
    · obtain ⟨rfl, rfl⟩ := at_ b u z
      exact ⟨ha, hlen, vs, _, rv, ha⟩

theorem walk_ofG {l : PySem.W.OpenLaw} {n k : Nat} {q : Program} {loose : List Str} {XP : (Str → Option Value) → Heap → Prop} {YP : World → Heap → Prop} {d : DefRec} {K : Params → PySem.W.Frag} {CX : World → CXT} {sp : World → Sp} {x : Str}
    (hn : l.most = some n) (hn2 : n ≤ sizeLine) (hdf : d.params.defaults = []) (hr : Room k callerA) (hY : ∀ (w : World) (h : Heap), YP w h → (K w.params).In h)
    (F : ∀ (w : World) (mg : Str → Option Value) (fa : Addr) (h : Heap), (K w.params).In h → h.Ns mainGlobals mg → mg d.name = some (.ref fa) →
      ∃ fd : FuncData, (∀ (s : Shared) (u : Value), BindsTo s fd ⟨[u], []⟩ [(x, u)]) ∧ ∀ base : Heap, (K w.params).In base → base.Ns mainGlobals mg → FnG l.prog w (K w.params) mg base (CX w) k fa fd [x] (sp w))
    (hsp : ∀ (w : World) (H : Hp) (a : Addr) (ns : List Int), ns.length ≤ n → (∀ z ∈ ns, Builtin.Int.intBits z ≤ 1048576) → Only H → SqL (K w.params) H a (ns.map V.int) → sp w [.ref a] H (fun v _ => v = .bl true) fun _ _ _ => False)
    (hCX : ∀ (w : World) (H : Hp) (s : Shared) (e : Value) (s' : Shared), CX w [] H s (fun _ _ _ => False) e s' → False) :
    PySem.W.WalkO q loose XP YP l.row.toRowW d [] (fun f vs => PySem.call f vs) := by
  apply Att.attach_callB hn hdf
  intro w s₀ s₁ mg mb fa o pm cd doc a vs ns G Y _ _ _ hmg hobj hints hlen hbits hg
  obtain ⟨fd, hb, hF⟩ := F w mg fa _ (hY w _ Y) G.T.g hmg
  exact law_callG (hY w _ Y) G.T.g G.T.b G.T.builtins G.T.nolimit hg hobj hints (Nat.le_trans hlen hn2) hr hF hb (fun H hO hS => hsp w H a ns hlen hbits hO hS) fun H e s' => hCX w H s₁ e s'
end So

namespace So
open PySem PySem.Spec PyProof.Rows L2
section
variable {K : PySem.W.Frag} {C : Addr}
theorem kit_self : PySem.W.kitOne K (.ref C) (.ref C) = some true := by
  unfold PySem.W.kitOne
  rw [if_pos]
  simp
/-- no built-in type stands below an own class -/
theorem sub_ty {T : String} (h : (fastBuiltinMro T).map (fun l => l.all fun v => match v with | .type _ => true | _ => false) = some true) : PySem.W.subIn K (.type T) (.ref C) = some false := by
  show (fastBuiltinMro T).map (·.contains (.ref C)) = some false
  cases e : fastBuiltinMro T with
  | none => rw [e] at h; cases h
  | some l =>
    rw [e] at h
    have h2 : (l.all fun v => match v with | .type _ => true | _ => false) = true := Option.some.inj h
    show some (l.contains (.ref C)) = some false
    congr 1
    cases c : l.contains (.ref C) with
    | false => rfl
    | true =>
      have m : (Value.ref C) ∈ l := by simpa using c
      have := List.all_eq_true.mp h2 _ m
      cases this
theorem notFirst_ty {T : String} (h : (fastBuiltinMro T).map (fun l => l.all fun v => match v with | .type _ => true | _ => false) = some true) : PySem.W.notFirst K C (.type T) = true := by
  unfold PySem.W.notFirst
  rw [sub_ty h]
  simp
theorem kit_no {T : String} (hc : PySem.W.isClsIn K C = true) (ht : PySem.W.typeIn K (.ref C) = some (.type "type")) (h : (fastBuiltinMro T).map (fun l => l.all fun v => match v with | .type _ => true | _ => false) = some true) : PySem.W.kitOne K (.type T) (.ref C) = some false := by
  unfold PySem.W.kitOne PySem.W.kitCls
  unfold PySem.W.isClsIn at hc
  have hb : ((PySem.W.clsIn K C).isSome && PySem.W.typeIn K (.ref C) == some (.type "type")) = true := by
    rw [hc, ht]
    simp
  have sb := sub_ty (K := K) (C := C) h
  simp [hb, sb]
end
end So

/-! So, on: exceptions that are kept as values. -/
namespace So
open PySem PySem.Spec PyProof.Rows L2
/-- an exception object of the class cls, its dict at d, that stands at a and is nobody's news -/
def Xo (cls : Value) (d : Option Addr) (a : Addr) : HO := .ext fun h => ∃ (oe : Obj) (vs : Array Value), h.get? a = some oe ∧ Zc cls d oe ∧ oe.data = .fields vs
theorem xo_ok {P : Program} {w : World} {H : Hp} {h : Heap} {a : Addr} {cls : Value} {d : Option Addr} {oe : Obj} {vs : Array Value} (e : h.get? a = some oe) (z : Zc cls d oe) (f : oe.data = .fields vs) : ObjOk P w H h a (Xo cls d a) := by
  refine ⟨⟨oe, vs, e, z, f⟩, ⟨oe, e⟩, ?_⟩
  rintro h1 h2 ⟨o, v, q, r⟩ k
  exact ⟨o, v, k o q, r⟩
theorem xo_at {P : Program} {w : World} {H : Hp} {h : Heap} {a : Addr} {cls : Value} {d : Option Addr} (hok : HOk P w H h) (e : H a = some (Xo cls d a)) : ∃ (oe : Obj) (vs : Array Value), h.get? a = some oe ∧ Zc cls d oe ∧ oe.data = .fields vs := by
  have x : ObjOk P w H h a (.ext fun h => ∃ (oe : Obj) (vs : Array Value), h.get? a = some oe ∧ Zc cls d oe ∧ oe.data = .fields vs) := hok a _ e
  exact x.1
section
variable {X : Cx} {pins : List (Addr × Obj)} {σ : L2.St} {H : Hp} {s sI : Shared} {a : Addr} {cls : Value} {d : Option Addr} {oe : Obj} {vs : Array Value}
/-- an exception that has landed is tracked from now on -/
theorem track (J : Inv X pins σ H sI) (hex : X.ex = []) (hI : sI.heap.get? a = none) (I : Inv X pins σ H s) (he : s.heap.get? a = some oe) (hz : Zc cls d oe) (hd : oe.data = .fields vs) (na : H a = none) (nL : a ≠ X.env.locals) :
    Inv X pins σ (upd H a (Xo cls d a)) s := by
  have h0 : ∀ b o, X.s_0.heap.get? b = some o → b ≠ a := by
    rintro b o e rfl
    obtain ⟨o', e'⟩ := J.base.there b o e (by rw [hex]; exact fun z => nomatch z)
    rw [hI] at e'
    cases e'
  have hs : ∀ {b : Addr} {u : HO}, H b = some u → (upd H a (Xo cls d a)) b = some u := fun e => (upd_ne (ne_of_none e na)).trans e
  refine ⟨I.ok, I.os, I.bare, ⟨I.base.keep, I.base.slot, fun b o e n hx => (upd_ne (h0 b o e)).trans (I.base.free b o e n hx), I.base.there, fun b xs q => hs (I.base.tups b xs q), fun b o u q => hs (I.base.frzs b o u q), fun b ps q => ?_⟩,
    I.loc, I.cell, (upd_ne nL.symm).trans I.free, fun x c e => ?_, fun p hp => ?_, fun b u e => ?_, I.len⟩
  · obtain ⟨m, q'⟩ := I.base.tbls b ps q
    exact ⟨m, hs q'⟩
  · refine (upd_ne ?_).trans (I.freeC x c e)
    rintro rfl
    obtain ⟨v, o, ho, hc⟩ := I.cell x c e
    rw [he] at ho
    cases ho
    rw [hd] at hc
    cases hc
  · obtain ⟨p1, p2, p3, p4, p5⟩ := I.pin p hp
    refine ⟨p1, (upd_ne ?_).trans p2, p3, p4, p5⟩
    intro z
    have := (J.pin p hp).1
    rw [z, hI] at this
    cases this
  · by_cases hb : b = a
    · subst hb
      rw [upd_same] at e
      cases e
      exact xo_ok he hz hd
    · rw [upd_ne hb] at e
      exact (I.hok b u e).stay (fun _ _ _ q => q) (fun c q => hs q) fun c xs q => hs q
end

/-! ### try: body, except x as n: suite, the exception kept as a value -/
/-- what such a clause wishes of an exception of the body -/
def wKeep (K : PySem.W.Frag) (c : Value) (i : Nat) (ts : TS) (Wout : WX) (D : Ends) : WX := fun cls d σ H =>
  ∃ b, PySem.W.exmOne K cls c = some b ∧ (b = true → ∀ a, H a = none → ts { nx := fun σ' H' => D.nx (σ'.set i none) H', rt := D.rt, bk := fun σ' H' => D.bk (σ'.set i none) H', ct := fun σ' H' => D.ct (σ'.set i none) H' } (σ.set i (some (.ref a))) (upd H a (Xo cls d a))) ∧
    (b = false → Wout cls d σ H)
section
variable {X : Cx} {x n : Str} {c : Value} {i : Nat} {body suite : List Stmt} {b₀ : Stmt} {np pos pos' : Pos} {tb : WX → TS} {ts : TS} {Wout : WX}
theorem ps_try_keep (hs : X.stack = X.env :: X.outer) (hf : X.env.frame = some X.env.locals) (hex : X.ex = []) (hN : X.N.Nodup) (hi : X.N[i]? = some n) (hln : X.env.kindOf n = some .local) (hc : Names X x c) (tk : Takes X Wout)
    (hb : ∀ (W : WX) (pn : List (Addr × Obj)) (xe : Value → Shared → Prop), Takes (X.tr pn xe) W → PassesOwn (model X.prog X.w) X.A X.env xe → PSs (X.tr pn xe) body (tb W))
    (hsu : ∀ (a : Addr) (pn : List (Addr × Obj)), PSs (X.suite a pn) (b₀ :: suite) ts) :
    PS X (.Try body [.ExceptHandler (some (.Name x np)) (some n) (b₀ :: suite) pos'] [] [] pos) (fun D σ H => tb (wKeep X.K c i ts Wout D) D σ H) := by
  constructor
  intro pins s σ H D I h
  have ok := I.ok
  have hfr : X.A.frames = some (X.env :: X.outer) := ok.frames.trans (congrArg some hs)
  refine wpAny_Try_except (wpAny_mono ((hb (wKeep X.K c i ts Wout D) (X.pn ++ pins) (fun e s₁ => wpAny (model X.prog X.w) X.A (noteFrame e X.env) (fun _ s₂ => wpAny (model X.prog X.w) X.A (setFlight e none) (fun _ s₃ =>
    wpAny (model X.prog X.w) X.A (handleBy e X.env [.ExceptHandler (some (.Name x np)) (some n) (b₀ :: suite) pos']) (SP X pins D) X.xe s₃) X.xe s₂) X.xe s₁) (fun u s' xx => ?_) PassesOwn.looking).run [] s σ H D (I.toTry _) h) (fun f s1 hsp => ?_) fun e s1 he => he)
  · obtain ⟨a, B, sI, pins', σ', H', cls, d, rfl, J', nb, up, sky, na, os, ag, b, hb1, hyes, hno⟩ := xx
    have J : Inv X pins σ' H' sI := J'.ofTry ok
    have sky' : Sky B (X.env :: X.outer) a (Zc cls d) X.env.locals s'.heap := hs ▸ sky
    refine Sky.land Zc.steady hfr hf sky' fun h3 fl3 up3 => ?_
    have J3 : Inv X pins σ' H' { s' with heap := h3 } := J.landed nb fl3.1 (up.trans up3) os ag
    obtain ⟨oe3, vs3, he3, hz3, hd3⟩ := fl3.there
    have nfr : a ∉ frs (X.env :: X.outer) := fun hm => by
      obtain ⟨_, o', e', hnf⟩ := fl3.2.2.1.mem hm
      rw [he3] at e'
      cases e'
      exact hnf _ hd3
    have nL : a ≠ X.env.locals := fun z => nfr (by
      refine List.mem_filterMap.mpr ⟨X.env, List.mem_cons_self, ?_⟩
      rw [hf, z])
    have hBa : B.get? a = none := fl3.2.1
    have hIa : sI.heap.get? a = none := by
      cases e : sI.heap.get? a with
      | none => rfl
      | some o =>
        have := nb a o e (by rw [hs]; exact nfr)
        rw [hBa] at this
        cases this
    refine wpAny_handleBy_cons (codeAny_handlers_test ?_) (by intro q; cases q)
    have LT : PySem.W.Looks (model X.prog X.w) h3 (typeOf (.ref a)) cls := by
      intro A Q E s k q
      refine wpAny_typeOf_ref (k _ _ he3) ?_
      rw [hz3.1]
      exact q
    have LM := PySem.W.exm_one (M := model X.prog X.w) (J3.kIn) LT hb1
    have S0 : ∀ {h4 : Heap}, Inv X pins σ' H' { s' with heap := h4 } → ∀ {o : Obj} {v : Array Value}, h4.get? a = some o → Zc cls d o → o.data = .fields v → Inv (X.suite a (X.pn ++ pins)) [] σ' (upd H' a (Xo cls d a)) { s' with heap := h4 } := by
      intro h4 J4 o v e z dt
      have T := track J hex hIa J4 e z dt na nL
      exact ⟨T.ok.suite _ _, T.os, T.bare, T.base, T.loc, T.cell, T.free, T.freeC, fun p hp => T.pin p (by rwa [List.append_nil] at hp), T.hok, T.len⟩
    have S3 := S0 J3 he3 hz3 hd3
    have test : ∀ {Q : Value → Shared → Prop} {E : Value → Shared → Prop}, Q c { s' with heap := h3 } → wpAny (model X.prog X.w) (X.A.mark (some (.ref a))) (eval (.Name x np) X.env) Q E { s' with heap := h3 } := by
      intro Q E q
      rcases hc with ⟨hg, hdbg, hm | ⟨hm, hv, hnn⟩⟩
      · exact ld_glob (X := X.suite a (X.pn ++ pins)) S3 hg hm q hdbg
      · exact ld_blt (X := X.suite a (X.pn ++ pins)) S3 hg hm hv q hnn hdbg
    refine test (LM.here ?_)
    cases b with
    | true =>
      refine codeAny_handlers_suite_as (HandSPX.lands_againZ fl3 fun h4 fl4 up4 => ?_)
      have J4 : Inv X pins σ' H' { s' with heap := h4 } := J.landed nb fl4.1 ((up.trans up3).trans up4) os ag
      obtain ⟨oe4, vs4, he4, hz4, hd4⟩ := fl4.there
      have S4 := S0 J4 he4 hz4 hd4
      refine store_ok (X := X.suite a (X.pn ++ pins)) (v := .ref a) S4 hN hi (.inl hln) rfl (fun s5 S5 => ?_) (.inr hln)
      refine wpAny_mono ((hsu a (X.pn ++ pins)).run [] s5 _ _ _ S5 (hyes rfl a na)) (fun f s6 hsp => ?_) (fun _ _ z => z.elim)
      have out : ∀ {σ6 : L2.St} {H6 : Hp}, Inv (X.suite a (X.pn ++ pins)) [] σ6 H6 s6 → Inv X pins σ6 H6 s6 := fun S6 =>
        ⟨ok, S6.os, S6.bare, S6.base, S6.loc, S6.cell, S6.free, S6.freeC, fun p hp => S6.pin p (List.mem_append_left _ hp), S6.hok, S6.len⟩
      match f, hsp with
      | .next, ⟨σ6, H6, S6, q6⟩ => exact gone_ok (out S6) hN hi hln fun s7 J7 => ⟨_, _, J7, q6⟩
      | .brk, ⟨σ6, H6, S6, q6⟩ => exact gone_ok (out S6) hN hi hln fun s7 J7 => ⟨_, _, J7, q6⟩
      | .cont, ⟨σ6, H6, S6, q6⟩ => exact gone_ok (out S6) hN hi hln fun s7 J7 => ⟨_, _, J7, q6⟩
      | .ret u, ⟨v6, σ6, H6, S6, r6, q6⟩ => exact gone_ok (out S6) hN hi hln fun s7 J7 => ⟨_, _, _, J7, r6, q6⟩
    | false =>
      refine wpAny_handleBy_nil ?_
      obtain ⟨_, _, _, oe, vs, T, _, _, he, _, hd, h1, _⟩ := id fl3
      unfold PySem.passOn
      refine wpAny_bind (wpAny_field he hd h1 ?_)
      have nn : ¬ ((Value.ref T == Value.none) = true) := by simp
      rw [if_neg nn]
      have fin : wpAny (model X.prog X.w) X.A (setFlight (.ref a) X.env.frame) (fun _ s4 => wpAny (model X.prog X.w) X.A (throw (.ref a) : Sem Flow) (SP X pins D) X.xe s4) X.xe { s' with heap := h3 } := by
        rw [hf]
        refine HandSPX.setFlight_upZ fl3 fun h4 hh4 up4 => wpAny_throw (tk _ _ ⟨a, B, sI, pins, σ', H', cls, d, rfl, J, nb, (up.trans up3).trans up4, ?_, na, os, ag, hno rfl⟩)
        exact Or.inr (Or.inr (hs ▸ hh4))
      first
        | exact wpAny_bind (wpAny_pure (wpAny_bind fin))
        | exact wpAny_bind fin
  · match f, hsp with
    | .next, ⟨σ', H', J', q⟩ => exact wpAny_execs_nil ⟨σ', H', J'.ofTry ok, q⟩
    | .brk, ⟨σ', H', J', q⟩ => exact ⟨σ', H', J'.ofTry ok, q⟩
    | .cont, ⟨σ', H', J', q⟩ => exact ⟨σ', H', J'.ofTry ok, q⟩
    | .ret u, ⟨v, σ', H', J', r, q⟩ => exact ⟨v, σ', H', J'.ofTry ok, r, q⟩
end
end So

namespace So
open PySem PySem.Spec PyProof.Rows L2
/-- what an error class of the program's own says of its instances -/
structure Err (K : PySem.W.Frag) (C : Addr) : Prop where
  ga : PySem.W.findIn K (.ref C) "__getattribute__" = some (some (.builtin "BaseException.__getattribute__"))
  gg : PySem.W.findIn K (.ref C) "__getattr__" = some none
  exC : PySem.W.subIn K (.ref C) (.type "BaseException") = some true
  hdC : PySem.W.hasDictIn K C = true
  ca : PySem.W.findIn K (.ref C) "__class__" = some (some (.builtin "object.__class__"))
  cn : PySem.W.specialIn K (.builtin "object.__class__") "__get__" = some (some (.builtin "getset_descriptor.__get__"))
  ct : PySem.W.takesIn K (.builtin "object.__class__") = some true
  cm : PySem.W.mroIn K C (.type "object") = some true
section
variable {X : Cx}
/-- e.n, e an exception that is kept -/
theorem pe_xo {C : Addr} {e : Expr} {te : TE} {pos : Pos} {n : Str} (T : Err X.K C) (hno : PySem.W.findIn X.K (.ref C) n = some none) (he : PE X e te) (hb : attributeBase e n X.env (eval e X.env) = eval e X.env := by rfl) :
    PE X (.Attribute e n pos) (fun σ H Q => te σ H fun x H1 => ∃ (a dd : Addr) (fs : List (Str × V)) (v : V), x = .ref a ∧ H1 a = some (Xo (.ref C) (some dd) a) ∧ H1 dd = some (.xd fs) ∧ fs.lookup n = some v ∧ Q v H1) := by
  constructor
  intro pins s σ H Q I h
  refine attr_of hb (thn (he.run pins s σ H _ I h) fun u s1 hh => ?_)
  obtain ⟨x, H1, I1, rx, a, dd, fs, v, rfl, ha, ea, l, q⟩ := hh
  cases rx
  obtain ⟨oe, vs, hg, hz, hd⟩ := xo_at I1.hok ha
  obtain ⟨mA, hns, hr⟩ := (show ObjOk X.prog X.w H1 s1.heap dd (.xd fs) from I1.hok dd _ ea)
  obtain ⟨od, ho, hl⟩ := lookIn_ns hns
  have hrn := hr n
  rw [l] at hrn
  obtain ⟨u, hu, ru⟩ := RelO.some_of hrn
  have nc : PySem.W.notCls oe = true := by
    unfold PySem.W.notCls
    rw [hd]
  have J : PySem.W.InstAt s1.heap a oe C (some od) := by
    refine ⟨hg, hz.1, nc, ?_⟩
    rw [hz.2]
    exact ho
  have fo := PySem.W.findObj_own (K := X.K) (C := C) (od := od) (name := n) (v := u) T.hdC hno rfl (by rw [hl, hu])
  exact HandSPX.exc_get I1.kIn J T.ga T.gg T.exC fo (handed_of ru) ⟨v, H1, I1.tok _, ru, q⟩
end
/-! ### isinstance of a kept exception -/
section
open PySem.W PySem.Calls
variable {prog : Program} {w : World} {A : Around} {E : Value → Shared → Prop} {K : Frag} {x D : Addr} {ox : Obj} {od : Option Obj}
theorem err_class {Q : Option Value → Shared → Prop} (T : Err K D) (hp : Heap) (g : Array GenState) (dr : Drawn) (t : Nat) (os : OsState) (X : K.In hp) (I : InstAt hp x ox D od)
    (h : Q (some (.ref D)) ⟨hp, g, dr, t + 1, os⟩) : wpAny (model prog w) A (getAttr? (.ref x) "__class__") Q E ⟨hp, g, dr, t, os⟩ := by
  have isc : (clsIn K D).isSome = true := by
    obtain ⟨cd, hc, _⟩ := any_some T.hdC
    rw [hc]
    rfl
  have hf : findObj K D od "__class__" = some (.bind (.builtin "getset_descriptor.__get__") (.builtin "object.__class__")) := by
    cases od with
    | none => exact findObj_dataN isc T.ca T.cn T.ct
    | some o => exact findObj_data isc T.ca T.cn T.ct
  have k0 := I.type (M := model prog w)
  have k1 := looks_findIn (M := model prog w) X T.ga
  have k2 := looks_findIn (M := model prog w) X T.gg
  have k3 := looks_find (M := model prog w) X I hf
  have below : Looks (model prog w) hp (isInstance (.ref x) (.type "BaseException")) true := k0.andThen (looks_subIn X T.exC)
  have ne : (Value.builtin "BaseException.__getattribute__" == Value.builtin "object.__getattribute__") = false := by decide +kernel
  have both : (onTheHeap (Value.ref D) && Value.builtin "BaseException.__getattribute__" == Value.builtin "object.__getattribute__") = false := by
    rw [ne]
    exact Bool.and_false _
  have own : onTheHeap (Value.ref D) = true := rfl
  have noheap : (false && onTheHeap (Value.builtin "BaseException.__getattribute__")) = false := rfl
  unfold getAttr? getAttrBy? getAttrBy
  apply wpAny_bind
  apply wpAny_mkText
  apply wpAny_bind
  apply wpAny_attempt
  apply wpAny_holding
  apply wpAny_bind
  apply k0.at
  apply wpAny_bind
  apply k1.at
  show wpAny _ _ (ite ((onTheHeap (Value.ref D) && Value.builtin "BaseException.__getattribute__" == Value.builtin "object.__getattribute__") = true) _ _) _ _ _
  rw [both, if_neg (by decide)]
  unfold getAttrByItsOwn hookBefore
  apply wpAny_bind
  rw [if_pos own]
  apply k2.at
  apply wpAny_bind
  apply wpAny_attempt
  apply wpAny_holding
  unfold callGetattribute
  rw [noheap, if_neg (by decide)]
  unfold boundAndCalled
  rw [F.excAttr_ValueError.ga.bind (.ref x)]
  apply wpAny_bind
  apply wpAny_pure
  show wpAny _ _ (call (.builtin "BaseException.__getattribute__") [.ref x, .str "__class__" t]) _ _ _
  apply wpAny_call
  refine codeAny_call_builtin F.excAttr_ValueError.ga.plain F.entry_bexc_ga (@check_slot (model prog w) _ _ ⟨hp, g, dr, t + 1, os⟩ "BaseException.__getattribute__" "BaseException" "__getattribute__" (.ref x) [.str "__class__" t] [] _ (by decide +kernel) (by decide +kernel) below (F.args_bexc_ga (.ref x) (.str "__class__" t)) ?_)
  unfold Builtin.«object.__getattribute__»
  apply wpAny_bind
  refine wpAny_of_eq (a := ((Value.ref x : Value), [Value.str "__class__" t])) (by first | rfl | (simp only [slotArgs]; rfl)) ?_
  apply wpAny_bind
  apply wpAny_pure
  apply wpAny_bind
  apply k0.at
  apply wpAny_bind
  apply k3.at
  show wpAny _ _ (holding [Value.builtin "object.__class__"] (call (.builtin "getset_descriptor.__get__") [.builtin "object.__class__", .ref x, .ref D]) >>= ret) _ _ _
  apply wpAny_bind
  apply wpAny_holding
  apply wpAny_call
  refine class_get (s := ⟨hp, g, dr, t + 1, os⟩) (ox := ox) (od := od) X I T.cm (wpAny_pure ?_)
  show wpAny _ _ (handedOut (.ref D)) _ _ _
  rw [handedOut_of (v := .ref D) rfl]
  first
    | exact wpAny_pure (wpAny_pure h)
    | exact wpAny_pure h
    | exact wpAny_pure (wpAny_bind (wpAny_pure (wpAny_pure h)))
theorem kitx_err (T : Err K D) : KitX K (.ref x) (.ref D) (fun h => ∃ ox od, InstAt h x ox D od) where
  ty := fun _ _ _ ⟨_, _, I⟩ => I.type
  it := fun _ _ X _ => by
    obtain ⟨cd, hc, _⟩ := any_some T.hdC
    unfold clsIn at hc
    split at hc
    · rename_i ho
      intro A' Q' E' s' k q
      unfold isType loadHead
      exact wpAny_bind (wpAny_loadPart (k _ _ (X _ _ ho)) (wpAny_pure q))
    · cases hc
  ne := fun h tp dd its n sl X htp => by
    cases q : (Value.ref D == Value.ref tp) with
    | false => rfl
    | true =>
      have e : D = tp := Value.ref.inj (beq_iff_eq.mp q)
      subst e
      obtain ⟨cd, hc, _⟩ := any_some T.hdC
      unfold clsIn at hc
      split at hc
      · rename_i ho
        have z := (X _ _ ho).symm.trans htp
        cases z
      · cases hc
  ca := fun {prog w A E Q s} X I k => by
    obtain ⟨ox, od, I⟩ := I
    obtain ⟨hp, g, dr, t, os⟩ := s
    exact err_class T hp g dr t os X I k
end
section
variable {X : Cx}
/-- isinstance(e, c), e a kept exception, c one class -/
theorem call_isXo : CallR X (.builtin "isinstance") (fun xs H Q => ∃ (a D dd : Addr) (fs : List (Str × V)) (c : V) (u : Value) (b : Bool), xs = [.ref a, c] ∧ H a = some (Xo (.ref D) (some dd) a) ∧ H dd = some (.xd fs) ∧ Err X.K D ∧ ClsV c u ∧ PySem.W.kitOne X.K (.ref D) u = some b ∧ Q (.bl b) H) := by
  intro pins s σ H xs us Q I r h
  obtain ⟨a, D, dd, fs, c, u, b, rfl, ha, hd, T, cv, e, q⟩ := h
  obtain ⟨u1, u2, rfl, r1, r2⟩ := vals2 r
  cases r1
  have e2 := cv.eq r2
  subst e2
  obtain ⟨oe, vs, hg, hz, hdat⟩ := xo_at I.hok ha
  obtain ⟨mA, hns, _⟩ := (show ObjOk X.prog X.w H s.heap dd (.xd fs) from I.hok dd _ hd)
  obtain ⟨od, ho, _⟩ := lookIn_ns hns
  have nc : PySem.W.notCls oe = true := by
    unfold PySem.W.notCls
    rw [hdat]
  have J : PySem.W.InstAt s.heap a oe D (some od) := by
    refine ⟨hg, hz.1, nc, ?_⟩
    rw [hz.2]
    exact ho
  exact PySem.W.kia_one (kitx_err T) I.kIn ⟨oe, some od, J⟩ e (fun z => nomatch z) fun tk => ⟨.bl b, H, I.tok tk, rfl, q⟩
end
end So

namespace So
open PySem PySem.Spec PyProof.Rows L2
/-- C.m is a static method: its record at p, its def at g -/
structure Sta (K : PySem.W.Frag) (C : Addr) (mc : Value) (m : Str) (p g : Addr) : Prop where
  rd : PySem.W.readsIn K C mc = true
  ga : PySem.W.specialIn K (.ref C) "__getattribute__" = some (some (.builtin "type.__getattribute__"))
  at_ : PySem.W.findCls K (.ref C) mc m = some (.get (.builtin "staticmethod.__get__") (.ref p) .none (.ref C))
  rc : ∃ rest, PySem.W.recIn K p "staticmethod" = some (.ref g :: rest)
  kp : PySem.W.keepIn K (.ref g) = true
section
variable {X : Cx} {CX : CXT} {k : Nat} {C f p0 : Addr} {mc : Value} {fd : FuncData} {ps ks : List Str} {sp : Sp} {E : XK} {m : Str} {pos apos : Pos} {e o : Expr} {es : List Expr} {kws : List Keyword} {ta : TE} {t tk : TA}
theorem getsta_ok {pins : List (Addr × Obj)} {σ : L2.St} {H : Hp} {s : Shared} {pl : Sem Bool} {A : Around} {E' : Value → Shared → Prop} {Q : Value × List Value → Shared → Prop} (I : Inv X pins σ H s) (S : Sta X.K C mc m p0 f) (h : ∀ s', Inv X pins σ H s' → Q (.ref f, []) s') :
    wpAny (model X.prog X.w) A (getMethod (.ref C) m pl) Q E' s := by
  obtain ⟨rest, hp⟩ := S.rc
  refine PySem.W.method_cls I.kIn S.ga (PySem.W.cls_bind I.kIn S.rd S.at_ (wpAny_call (PySem.W.sm_get (s := { s with toks := s.toks + 1 }) I.kIn hp (PySem.W.handed_on rfl ?_))))
  exact h _ (I.tok _)
/-- C.m(e, ..), m static -/
theorem pe_sta {pl : Sem Bool} (he : PE X o ta) (S : Sta X.K C mc m p0 f) (F : FnOk X.prog X.w X.K X.mg X.base CX k f fd ps sp) (hr : Room k X.A) (hb : Binds X.K fd ps []) (hx : Passes CX X E) (ha : PA X (e :: es) t)
    (hst : starEach (e :: es) X.env = (false, eval e X.env) :: starEach es X.env := by rfl) (hpl : (backTo pos (starEach es X.env)).any (·.1) = false := by rfl)
    (ht : eval (.Call (.Attribute o m apos) (e :: es) [] pos) X.env = (do
      let ov ← eval o X.env
      standAt apos.atName
      let fx ← holding [ov] (getMethod ov m pl)
      callWith pos fx.1 fx.2 (backTo pos (starEach (e :: es) X.env)) (backToKw pos (keywordEach [] X.env))) := by rfl) :
    PE X (.Call (.Attribute o m apos) (e :: es) [] pos) (fun σ H Q => ta σ H fun x H1 => x = .ref C ∧ t σ H1 fun vs H2 => sp vs H2 Q E) := by
  constructor
  intro pins s σ H Q I h
  refine PySem.W.methodCall_KW (pl := pl) (thn (he.run pins s σ H _ I h) fun u s1 z => ?_) ht
  obtain ⟨x, H1, I1, rx, rfl, q⟩ := z
  cases rx
  refine getsta_ok I1 S fun s2 I2 => PySem.W.callWith_K (first := []) (h₀ := X.base) I2.ok.mod.kin S.kp (thn (ha.run pos pins s2 σ H1 _ I2 q) fun us s3 z => ?_) hst hpl
  obtain ⟨vs, H2, I3, r, q2⟩ := z
  refine ⟨I3.kIn, ?_⟩
  have q3 : sp (vs ++ []) H2 Q E := by
    rw [List.append_nil]
    exact q2
  exact run_fn F hr hb .nil hx I3 r q3
/-- C.m(k = v, ..), m static, keywords alone -/
theorem pe_staK {g : List Value → List Value → List Value} {gV : List V → List V → List V} {pl : Sem Bool} (he : PE X o ta) (S : Sta X.K C mc m p0 f) (F : FnOk X.prog X.w X.K X.mg X.base CX k f fd ps sp) (hr : Room k X.A) (hb : KBinds X.K fd ps ks g gV) (hx : Passes CX X E)
    (hkw : PK X kws tk) (hall : (backToKw pos (keywordEach kws X.env)).all (·.1.isSome) = true := by rfl) (hks : (backToKw pos (keywordEach kws X.env)).filterMap (·.1) = ks := by rfl)
    (hpl : ((backTo pos (starEach [] X.env)).any (·.1) || (backToKw pos (keywordEach kws X.env)).any (·.1.isNone)) = false := by rfl)
    (ht : eval (.Call (.Attribute o m apos) [] kws pos) X.env = (do
      let ov ← eval o X.env
      standAt apos.atName
      let fx ← holding [ov] (getMethod ov m pl)
      callWith pos fx.1 fx.2 (backTo pos (starEach [] X.env)) (backToKw pos (keywordEach kws X.env))) := by rfl) :
    PE X (.Call (.Attribute o m apos) [] kws pos) (fun σ H Q => ta σ H fun x H1 => x = .ref C ∧ tk σ H1 fun zs H2 => sp (gV [] zs) H2 Q E) := by
  constructor
  intro pins s σ H Q I h
  refine PySem.W.methodCall_KW (pl := pl) (thn (he.run pins s σ H _ I h) fun u s1 z => ?_) ht
  obtain ⟨x, H1, I1, rx, rfl, q⟩ := z
  cases rx
  refine getsta_ok I1 S fun s2 I2 => PySem.W.callWith_KW0 (first := []) (h₀ := X.base) I2.ok.mod.kin S.kp hall (thn (hkw.run pos pins s2 σ H1 _ I2 q) fun ws s3 z => ?_) hpl
  obtain ⟨zs, H2, I3, rz, q2⟩ := z
  refine ⟨I3.kIn, ?_⟩
  rw [hks]
  exact run_fnk (us := []) (vs := []) F hr hb hx I3 .nil rz q2
/-- ~o by an own __invert__ -/
theorem un_invOwn (F : FnOk X.prog X.w X.K X.mg X.base CX k f fd ps sp) (hs : PySem.W.findIn X.K (.ref C) "__invert__" = some (some (.ref f))) (hf : PySem.W.isFn X.K (.ref f) = true) (hb : Binds X.K fd ps []) (hx : Passes CX X E) (hr : Room k X.A) :
    UnR X (unaryOp .Invert) (fun x H Q => ∃ a dx fs, x = .ref a ∧ H a = some (.ins C dx fs) ∧ sp [.ref a] H Q E) := by
  intro pins s σ H x v Q I rx h
  obtain ⟨a, dx, fs, rfl, ha, q⟩ := h
  cases rx
  obtain ⟨mA, J, _⟩ := ins_get I.hok ha
  obtain ⟨od, J, _⟩ := J.look
  obtain ⟨m, hF⟩ := I.fr
  refine PySem.W.ksp_inv hF I.ok.mod.kin J hs hf ?_
  exact run_fn (us := [.ref a]) (vs := [.ref a]) F hr hb .nil hx I (.cons rfl .nil) q
end
end So

namespace So
open PySem PySem.Spec PyProof.Rows L2
/-! ### own errors with one field -/
/-- the __init__ of such an error: the field is what was passed -/
def spOneE (C : Addr) (n : Str) : Sp := fun vs H Q _ => ∃ (a : Addr) (v : V), vs = [.ref a, v] ∧ H a = some (exo a C none) ∧ ∀ dx, H dx = none → dx ≠ a → Q .non (upd (upd H dx (exd dx [(n, v)])) a (exo a C (some dx)))
/-- what the top says of such an error: its class at C, named x, its field n, its __init__ at f -/
structure OneE (K : PySem.W.Frag) (mg : Str → Option Value) (x n : Str) (C f : Addr) (fd : FuncData) : Prop where
  T : OexC K C
  iC : PySem.W.findIn K (.ref C) "__init__" = some (some (.ref f))
  tI : PySem.W.typeIn K (.ref f) = some (.type "function")
  mgC : mg x = some (.ref C)
  no : PySem.W.findIn K (.ref C) n = some none
  err : Err K C
  hb : Binds K fd ["self", n] []
/-- behind C(v) -/
theorem mkOne {C : Addr} {n : Str} {vs : List V} {v : V} {H1 : Hp} {Q : XK} (e : vs = [v]) (h : ∀ d H', Same H1 H' → H1 d = none → H' d = some (.xd [(n, v)]) → Q (.ref C) (some d) H') :
    vs.length ≤ 1000 ∧ ∀ a, H1 a = none → spOneE C n (.ref a :: (vs ++ [])) (upd H1 a (exo a C none))
      (fun v H2 => v = .non ∧ ∃ (d : Addr) (fs : List (Str × V)), H2 a = some (exo a C (some d)) ∧ H2 d = some (exd d fs) ∧ H1 d = none ∧ Q (.ref C) (some d) (upd (del H2 a) d (.xd fs))) (fun _ _ _ => False) := by
  subst e
  refine ⟨by show 1 ≤ 1000; decide, fun a ha => ⟨a, v, rfl, upd_same, fun dx hdx ne => ⟨rfl, dx, [(n, v)], upd_same, ?_, ?_, h dx _ (fun b o hb => ?_) ?_ upd_same⟩⟩⟩
  · rw [upd_ne ne, upd_same]
  · rw [upd_ne ne] at hdx
    exact hdx
  · rw [upd_ne ne] at hdx
    have hba : b ≠ a := ne_of_none hb ha
    have hbd : b ≠ dx := ne_of_none hb hdx
    rw [upd_ne hbd, del_ne hba, upd_ne hba, upd_ne hbd, upd_ne hba]
    exact hb
  · rw [upd_ne ne] at hdx
    exact hdx
section
variable {X : Cx} {x n : Str} {C f : Addr} {fd : FuncData} {ta : TA} {e : Expr} {p pos pos2 : Pos}
theorem pmk_one (O : OneE X.K X.mg x n C f fd) (F : FnOk X.prog X.w X.K X.mg X.base CX0 1 f fd ["self", n] (spOneE C n)) (hr : Room 2 X.A) (hg : Gl X x) (ha : PA X [e] ta)
    (hdb : (x == ("__debug__" : Str)) = false := by decide) (he : starEach [e] X.env = (false, eval e X.env) :: starEach [] X.env := by rfl) (hpl : (backTo pos (starEach [] X.env)).any (·.1) = false := by rfl) :
    PMk X (.Call (.Name x p) [e] [] pos) (tMkO C (spOneE C n) [] ta) :=
  pmk_oex O.T O.iC O.tI F hr O.hb .nil (fun _ _ _ _ _ _ _ h => h.elim) hg O.mgC ha hdb he hpl
/-- raise C(e) -/
theorem ps_raiseOne {W : WX} (O : OneE X.K X.mg x n C f fd) (F : FnOk X.prog X.w X.K X.mg X.base CX0 1 f fd ["self", n] (spOneE C n)) (hc : X.calm = true) (hr : Room 2 X.A) (tk : Takes X W) (hg : Gl X x) (ha : PA X [e] ta)
    (hdb : (x == ("__debug__" : Str)) = false := by decide) (he : starEach [e] X.env = (false, eval e X.env) :: starEach [] X.env := by rfl) (hpl : (backTo pos (starEach [] X.env)).any (·.1) = false := by rfl) :
    PS X (.Raise (some (.Call (.Name x p) [e] [] pos)) none pos2) (fun _ σ H => tMkO C (spOneE C n) [] ta σ H fun cls d H' => W cls d σ H') := ps_raise hc tk (pmk_one O F hr hg ha hdb he hpl)
end

/-! ### repr of data, of a tuple of a text and an empty dict -/
section
variable {X : Cx}
theorem call_reprT (hg : X.A.guards = some []) (hu : X.A.units + 64 < cLine) : CallR X (.builtin "repr") (fun xs H Q => ∃ (r a : Addr) (w : Str), xs = [.ref r] ∧ SqT X.K H r [.str w, .ref a] ∧ H a = some (.dK []) ∧ (PyData.tuple [.str w, .dict []]).shown.length ≤ sizeLine ∧ Q (.str (PyData.tuple [.str w, .dict []]).shown) H) := by
  intro pins s σ H xs us Q I r h
  obtain ⟨rr, a, w, rfl, ht, ha, hz, q⟩ := h
  obtain ⟨u, rfl, rv⟩ := vals1 r
  cases rv
  obtain ⟨its, rw', ⟨o, ho, hc, n, hd⟩, _⟩ := I.tuple ht
  obtain ⟨hz2, hsm, vs, hk, hD⟩ : ([] : List (Key × V)).length ≤ sizeLine ∧ (a == sysModules) = false ∧ ∃ vs, KV [] vs ∧ s.heap.DictOf (mixKind X.prog X.w) a vs := I.hok a _ ha
  obtain ⟨u1, u2, rfl, r1, r2⟩ := vals2 rw'
  obtain ⟨t1, rfl⟩ := r1
  cases r2
  obtain ⟨o2, es, ep, e1, e2, e3, _, e5, _⟩ := hD
  cases hk
  have es0 : es.toList = [] := by
    cases h : es.toList with
    | nil => rfl
    | cons y ys =>
      rw [h] at e5
      cases e5
  have rdD : Reads s.heap (.ref a) (.dict []) (a :: [] ++ []) := Reads.dict (kvs := []) e1 e2.1 e3 (by rw [es0]; exact ReadsAll.nil) (by rw [es0]; exact ReadsAll.nil)
  have rd : Reads s.heap (.ref rr) (.tuple [.str w, .dict []]) ([] ++ ((a :: [] ++ []) ++ [])) := Reads.tuple ho hc hd (ReadsAll.cons (Reads.str w t1) (ReadsAll.cons rdD ReadsAll.nil))
  refine repr_of_reads' rd rfl (fun _ z => ?_) hg (by show X.A.units + (2 + 1) < cLine; omega) (fun _ _ e => e) (fun h' t tk k => ?_) hz
  · have : sysModules = a := by simpa using z
    rw [this] at hsm
    simp at hsm
  · exact ⟨.str _, H, I.kept k, ⟨t, rfl⟩, q⟩
theorem CallR.or {b : Value} {r r' : List V → Hp → VK → Prop} (h : CallR X b r) (h' : CallR X b r') : CallR X b (fun xs H Q => r xs H Q ∨ r' xs H Q) := by
  intro pins s σ H xs us Q I rv q
  exact q.elim (h pins s σ H xs us Q I rv) (h' pins s σ H xs us Q I rv)
end
end So

namespace K14
open PySem PySem.Spec PyProof.Rows L2 So
/-! ### the text -/
def topS (i : Nat) : Stmt := PySem.Challenge.pw_soundtill_k14_rows_moved_and_renamed.main.body.getD i (.Pass ⟨0, 0, 0, 0⟩)
abbrev sPen : Stmt := topS 46
abbrev sDraw : Stmt := topS 47
abbrev sPick : Stmt := topS 48
theorem scPen : FnScope ["_law_script"] ["_law_script"] (defScope sPen) := ⟨rfl, rfl, rfl, by decide +kernel, rfl, by decide +kernel, by decide +kernel⟩
theorem scDraw : FnScope ["_law_pen_here", "_law_many", "_law_digit", "_law_at", "_law_cell", "_law_great", "_law_mixed"] ["_law_pen_here", "_law_many"] (defScope sDraw) := ⟨rfl, rfl, rfl, by decide +kernel, rfl, by decide +kernel, by decide +kernel⟩
theorem scPick : FnScope ["_law_pen_here", "_law_some"] ["_law_pen_here", "_law_some"] (defScope sPick) := ⟨rfl, rfl, rfl, by decide +kernel, rfl, by decide +kernel, by decide +kernel⟩

/-! ### the pen -/
/-- the pen at p: the cells at l, how many were begun, what is left of a great one -/
structure Pen (H : Hp) (p l : Addr) (ns : List Int) (n : Nat) (g : Int) : Prop where
  pen : H p = some (.lst [.ref l, .int n, .int g])
  cells : H l = some (.lst (ns.map V.int))
  left : 0 ≤ g
/-- all that was tracked beside p is as it was -/
def Off (p : Addr) (H H' : Hp) : Prop := ∀ b o, b ≠ p → H b = some o → H' b = some o
theorem Off.refl {p : Addr} {H : Hp} : Off p H H := fun _ _ _ e => e
theorem Off.trans {p : Addr} {H H1 H2 : Hp} (a : Off p H H1) (b : Off p H1 H2) : Off p H H2 := fun c o n e => b c o n (a c o n e)
theorem Off.upd {p : Addr} {H H1 : Hp} {o : HO} (a : Off p H H1) : Off p H (upd H1 p o) := fun c u n e => by
  rw [upd_ne n]
  exact a c u n e
theorem Off.new {p q : Addr} {H H1 : Hp} {o : HO} (a : Off p H H1) (h : H1 q = none) : Off p H (L2.upd H1 q o) := fun c u n e => by
  have e1 := a c u n e
  rw [upd_ne (ne_of_none e1 h)]
  exact e1
theorem dp_ints {K : PySem.W.Frag} {H : Hp} : ∀ ns : List Int, DpAll K H (ns.map V.int) (ns.map PyData.int)
  | [] => .nil
  | n :: r => .cons (.int n) (dp_ints r)
theorem depth_ints : ∀ ns : List Int, PyData.depthAll (ns.map PyData.int) ≤ 1
  | [] => by simp [PyData.depthAll]
  | n :: r => by
    have h := depth_ints r
    simp only [List.map_cons, PyData.depthAll, PyData.depth]
    omega
theorem shaped_ints (ns : List Int) : SeqAt.shaped (.list (ns.map PyData.int)) = true := by
  unfold SeqAt.shaped
  rw [Bool.and_eq_true]
  have hd := depth_ints ns
  refine ⟨?_, decide_eq_true ?_⟩
  · show PyData.canLay0 _ = true
    simp only [PyData.canLay0]
    induction ns with
    | nil => rfl
    | cons a r ih => simpa [PyData.canLayAll0, PyData.canLay0] using ih (depth_ints r)
  · simp only [PyData.depth]
    omega
theorem Pen.apart {H : Hp} {p l : Addr} {ns : List Int} {n : Nat} {g : Int} (h : Pen H p l ns n g) : l ≠ p := by
  refine ne_of h.cells h.pen (fun z => ?_)
  injection z with z
  cases ns with
  | nil => cases z
  | cons a r => cases z
theorem eqv_nil (ds : List PyData) : PyData.eqv (.list ds) (.list []) = ds.isEmpty := by
  cases ds <;> simp [PyData.eqv, PyData.eqvAll]
section
variable {P : Program} {w : World} {K : PySem.W.Frag} {mg : Str → Option Value} {base : Heap}
def spDraw : Sp := fun vs H Q _ => ∃ (p l : Addr) (ns : List Int) (n : Nat) (g many : Int), vs = [.ref p, .int many] ∧ Pen H p l ns n g ∧ n < 1000000 ∧ 0 < many ∧ many.natAbs < 2 ^ 200 ∧
  ∀ (d : Int) (n' : Nat) (g' : Int) (H' : Hp), 0 ≤ d → d < many → n' ≤ n + 1 → Off p H H' → Pen H' p l ns n' g' → Q (.int d) H'
theorem ok_draw {f : Addr} {fd : FuncData} (F : Fun K "_law_draw" "_law_draw" sDraw f fd) (ml : mg "len" = none) (mi : mg "int" = none) (ma : mg "abs" = none) : FnOk P w K mg base CX0 1 f fd ["_law_pen_here", "_law_many"] spDraw := by
  refine F.ok scDraw (fun vs H Q E h => ?_) (fun cdv A outer s H vs Q E hr h => ?_)
  · obtain ⟨p, l, ns, n, g, many, rfl, _⟩ := h
    rfl
  · obtain ⟨p, l, ns, n, g, many, rfl, hp, hn, hm, hm2, q⟩ := h
    refine ⟨_, pss_cons (ps_if (pt_cmpR op_gt (pe_ix ix_list (pv 0) pe_int (fun _ _ => rfl)) pe_int (nomark _))
        (pss_cons (ps_set (i := 2) scDraw.nd rfl (.inl rfl) (pe_op op_mod (pe_callTy call_int1 (by rfl) mi (by decide +kernel) (pa_cons (pe_ix ix_list (pv 0) pe_int (fun _ _ => rfl)) pa_nil)) (pv 1)))
        (pss_cons (ps_asg (pe_op op_fdivW (pe_callTy call_int1 (by rfl) mi (by decide +kernel) (pa_cons (pe_ix ix_list (pv 0) pe_int (fun _ _ => rfl)) pa_nil)) (pv 1)) (pg_sub (pv 0) pe_int set_list))
        (pss_one (ps_ret (pv 2))))) pss_nil)
      (pss_cons (ps_set (i := 3) scDraw.nd rfl (.inl rfl) (pe_ix ix_list (pv 0) pe_int (fun _ _ => rfl)))
      (pss_cons (ps_asg (pe_op op_add (pv 3) pe_int) (pg_sub (pv 0) pe_int set_list))
      (pss_cons (ps_set (i := 4) scDraw.nd rfl (.inl rfl) (pe_op op_add (pe_op op_mul pe_int (pv 3)) pe_int))
      (C8.pss_cut (ps_if (pt_cmpR (op_neD (by have := hr.units; exact this)) (pe_ix ix_list (pv 0) pe_int (fun _ _ => rfl)) (pe_lst pa_nil) (nomark _))
        (pss_one (ps_set (i := 4) scDraw.nd rfl (.inl rfl) (pe_ix ix_list (pe_ix ix_list (pv 0) pe_int (fun _ _ => rfl)) (pe_op op_mod (pe_callTy call_int1 (by rfl) mi (by decide +kernel) (pa_cons (pv 3) pa_nil)) (pe_callB call_len_seq (by rfl) ml PySem.boot_len (pa_cons (pe_ix ix_list (pv 0) pe_int (fun _ _ => rfl)) pa_nil))) (fun _ _ => rfl)))) pss_nil)
      (pss_cons (ps_if (PW.pt (pw_and (pt_cmpR op_lt (pv 3) (pe_callB call_len_seq (by rfl) ml PySem.boot_len (pa_cons (pe_ix ix_list (pv 0) pe_int (fun _ _ => rfl)) pa_nil)) (nomark _))
            (pw_and1 (pt_cmpR op_ge (pe_callB call_abs (by rfl) ma (by decide +kernel) (pa_cons (pv 4) pa_nil)) (pe_op op_pow pe_int pe_int) (nomark _)))))
        (pss_cons (ps_set (i := 5) scDraw.nd rfl (.inl rfl) (pe_op op_add (pe_op op_mul pe_int (pe_op op_sub (pe_callB call_abs (by rfl) ma (by decide +kernel) (pa_cons (pv 4) pa_nil)) (pe_op op_pow pe_int pe_int)))
            (pe_callTy call_int1 (by rfl) mi (by decide +kernel) (pa_cons (pe_cmpR op_lt (pv 4) pe_int (nomark _)) pa_nil))))
        (pss_cons (ps_asg (pe_op op_fdivW (pe_callTy call_int1 (by rfl) mi (by decide +kernel) (pa_cons (pv 5) pa_nil)) (pv 1)) (pg_sub (pv 0) pe_int set_list))
        (pss_one (ps_ret (pe_op op_mod (pe_callTy call_int1 (by rfl) mi (by decide +kernel) (pa_cons (pv 5) pa_nil)) (pv 1)))))) pss_nil)
      (pss_cons (ps_set (i := 6) scDraw.nd rfl (.inl rfl) (pe_op op_mod (pe_callTy call_int1 (by rfl) mi (by decide +kernel) (pa_cons
          (pe_op op_pow (pe_op op_add (pe_op op_add (pe_op op_mod (pe_callTy call_int1 (by rfl) mi (by decide +kernel) (pa_cons (pv 4) pa_nil)) pe_int) (pe_op op_mul pe_int (pv 3))) pe_int) pe_int) pa_nil)) pe_int))
      (pss_cons (ps_set (i := 6) scDraw.nd rfl (.inl rfl) (pe_op op_mod (pe_callTy call_int1 (by rfl) mi (by decide +kernel) (pa_cons
          (pe_op op_pow (pe_op op_add (pe_op op_add (pe_op op_mul (pv 6) (pe_op op_add (pe_op op_mul pe_int (pv 3)) pe_int)) (pe_op op_mul (pe_op op_mul pe_int (pv 3)) (pv 3))) pe_int) pe_int) pa_nil)) pe_int))
      (pss_one (ps_ret (pe_op op_mod (pe_callTy call_int1 (by rfl) mi (by decide +kernel) (pa_cons (pe_op op_fdiv (pv 6) pe_int) pa_nil)) (pv 1))))))))))), ?_⟩
    have hP : SqL K H p [.ref l, .int n, .int g] := SqL.of hp.pen
    refine ⟨_, rfl, p, _, 2, _, rfl, rfl, hP, atI_nat (j := 2) rfl, _, _, rfl, rfl, _, rfl, ite2 (fun e => ?_) (fun e => ?_)⟩
    · refine ⟨_, rfl, p, _, 2, _, rfl, rfl, hP, atI_nat (j := 2) rfl, .inl ⟨_, rfl, _, rfl, _, _, rfl, rfl, hm, ?_⟩⟩
      refine ⟨_, rfl, p, _, 2, _, rfl, rfl, hP, atI_nat (j := 2) rfl, .inl ⟨_, rfl, _, rfl, _, _, rfl, rfl, wide_div hm hm2 (by decide) (by decide), _, rfl, p, _, 2, 2, rfl, rfl, hp.pen, rfl, ?_⟩⟩
      refine ⟨_, rfl, q _ n (g / many) _ (Int.emod_nonneg _ (Int.ne_of_gt hm)) (Int.emod_lt_of_pos _ hm) (by omega) Off.refl.upd ⟨upd_same, (upd_ne hp.apart).trans hp.cells, Int.ediv_nonneg hp.left (Int.le_of_lt hm)⟩⟩
    · refine ⟨_, rfl, p, _, 1, _, rfl, rfl, hP, atI_nat (j := 1) rfl, ?_⟩
      refine ⟨_, rfl, _, _, rfl, rfl, _, rfl, p, _, 1, 1, rfl, rfl, hp.pen, rfl, ?_⟩
      have hP1 : (upd H p (.lst [.ref l, .int (n + 1), .int g])) p = some (.lst [.ref l, .int (n + 1), .int g]) := upd_same
      have hL1 : (upd H p (.lst [.ref l, .int (n + 1), .int g])) l = some (.lst (ns.map V.int)) := (upd_ne hp.apart).trans hp.cells
      have hO1 : Off p H (upd H p (.lst [.ref l, .int (n + 1), .int g])) := Off.refl.upd
      refine ⟨_, rfl, _, _, rfl, rfl, .inl ⟨by decide, by decide⟩, _, _, rfl, rfl, ?_⟩
      refine ⟨fun σ' H2 => ∃ c : Int, σ' = [some (.ref p), some (.int many), none, some (.int n), some (.int c), none, none] ∧ H2 p = some (.lst [.ref l, .int (n + 1), .int g]) ∧ H2 l = some (.lst (ns.map V.int)) ∧ Off p H H2, ?_, ?_⟩
      · refine ⟨_, rfl, p, _, 0, _, rfl, rfl, SqL.of hP1, atI_nat (j := 0) rfl, Nat.zero_le _, fun z hz => ?_⟩
        have hP2 := (upd_ne (o := .lst []) (ne_of_none hP1 hz)).trans hP1
        have hL2 := (upd_ne (o := .lst []) (ne_of_none hL1 hz)).trans hL1
        refine ⟨.list (ns.map PyData.int), .list [], .lst (SqL.of hL2) (dp_ints ns), .lst (SqL.of upd_same) .nil, shaped_ints ns, by decide, _, rfl, ite2 (fun e1 => ?_) (fun e1 => ?_)⟩
        · rw [eqv_nil] at e1
          have hlen : 0 < ns.length := by
            cases ns with
            | nil => cases e1
            | cons a r => exact Nat.succ_pos _
          have hlt : n % ns.length < ns.length := Nat.mod_lt _ hlen
          refine ⟨_, rfl, p, _, 0, _, rfl, rfl, SqL.of hP2, atI_nat (j := 0) rfl, _, rfl, .inl ⟨_, rfl, _, rfl, p, _, 0, _, rfl, rfl, SqL.of hP2, atI_nat (j := 0) rfl, l, _, rfl, .inl (SqL.of hL2), _, _, rfl, rfl, (by rw [List.length_map]; omega), l, _, _, .int ns[n % ns.length], rfl, rfl, SqL.of hL2, ?_, ?_⟩⟩
          · have e2 : ((n : Int) % (((ns.map V.int).length : Nat) : Int)) = ((n % ns.length : Nat) : Int) := by
              rw [List.length_map]
              exact (Int.natCast_emod n ns.length).symm
            rw [e2]
            refine atI_nat ?_
            rw [List.getElem?_map, List.getElem?_eq_getElem hlt]
            rfl
          · exact ⟨_, rfl, hP2, hL2, hO1.new hz⟩
        · exact ⟨_, rfl, hP2, hL2, hO1.new hz⟩
      · rintro σ' H2 ⟨c, rfl, hP2, hL2, hO2⟩
        have hmix : ∀ t : Int, 0 ≤ t % many ∧ t % many < many := fun t => ⟨Int.emod_nonneg _ (Int.ne_of_gt hm), Int.emod_lt_of_pos _ hm⟩
        have bm : ∀ Y : Int, 0 ≤ Y % 2147483587 ∧ Y % 2147483587 < 2147483587 := fun Y => ⟨Int.emod_nonneg _ (by decide), Int.emod_lt_of_pos _ (by decide)⟩
        have bd : ∀ Y : Int, -(2 ^ 64) < Y % 2147483587 ∧ Y % 2147483587 < 2 ^ 64 := fun Y => by
          have := bm Y
          omega
        have key : ∀ Y : Int, ((Y % 2147483587) * (2 * (n : Int) + 71) + 53359 * (n : Int) * (n : Int) + 29).natAbs < 2 ^ 64 := by
          intro Y
          have b2 := bm Y
          revert b2
          generalize Y % 2147483587 = m1
          intro b2
          have b3 : 0 ≤ m1 * (2 * (n : Int) + 71) ∧ m1 * (2 * (n : Int) + 71) ≤ 2147483587 * 2000071 := ⟨Int.mul_nonneg b2.1 (by omega), Int.mul_le_mul (by omega) (by omega) (by omega) (by decide)⟩
          have b4 : 0 ≤ 53359 * (n : Int) * (n : Int) ∧ 53359 * (n : Int) * (n : Int) ≤ (53359 * 1000000) * 1000000 := ⟨Int.mul_nonneg (by omega) (by omega), Int.mul_le_mul (by omega) (by omega) (by omega) (by decide)⟩
          omega
        refine ⟨_, rfl, _, rfl, p, _, 0, _, rfl, rfl, SqL.of hP2, atI_nat (j := 0) rfl, l, _, rfl, .inl (SqL.of hL2), _, _, rfl, rfl, _, rfl, ite2 (fun e1 => ⟨_, rfl, _, rfl, _, _, rfl, rfl, ⟨by decide, by decide, by decide⟩, _, _, rfl, rfl, _, rfl, ite2 (fun e2 => ?great) (fun e2 => ?late)⟩) (fun e1 => ?small)⟩
        case great =>
          have e3 : (10 : Int) ^ (18 : Int).toNat ≤ (if c < 0 then -c else c) := of_decide_eq_true e2
          refine ⟨_, rfl, _, rfl, _, _, rfl, rfl, ⟨by decide, by decide, by decide⟩, _, _, rfl, rfl, _, _, rfl, rfl, .inl ⟨by decide, by decide⟩, _, rfl, _, _, rfl, rfl, .inr ⟨_, rfl, _, _, rfl, rfl, ?_⟩⟩
          have hG : ∀ k : Bool, 0 ≤ 2 * ((if c < 0 then -c else c) - (10 : Int) ^ (18 : Int).toNat) + (if k = true then (1 : Int) else 0) := by
            intro k
            have : (0 : Int) ≤ (if k = true then (1 : Int) else 0) := by cases k <;> decide
            omega
          have hG1 := hG (decide (c < 0))
          refine ⟨_, rfl, .inl ⟨_, rfl, _, rfl, _, _, rfl, rfl, wide_div hm hm2 (by decide) (by decide), _, rfl, p, _, 2, 2, rfl, rfl, hP2, rfl, ?_⟩⟩
          exact ⟨_, rfl, .inl ⟨_, rfl, _, rfl, _, _, rfl, rfl, hm, q _ (n + 1) _ _ (hmix _).1 (hmix _).2 (Nat.le_refl _) hO2.upd ⟨upd_same, (upd_ne (Pen.apart ⟨hP2, hL2, hp.left⟩)).trans hL2, Int.ediv_nonneg hG1 (Int.le_of_lt hm)⟩⟩⟩
        all_goals
          have b1 : 0 ≤ c % 2147483549 ∧ c % 2147483549 < 2147483549 := ⟨Int.emod_nonneg _ (by decide), Int.emod_lt_of_pos _ (by decide)⟩
          refine ⟨_, rfl, .inl ⟨_, rfl, _, _, rfl, rfl, (by decide : (0 : Int) < 2147483549), _, rfl, _, _, rfl, rfl, .inl ⟨by decide, by decide⟩, _, _, rfl, rfl, _, _, rfl, rfl, _, _, rfl, rfl, ⟨by decide, by decide, ?_⟩, .inl ⟨_, rfl, _, _, rfl, rfl, (by decide : (0 : Int) < 2147483587), ?_⟩⟩⟩
          · omega
          refine ⟨_, rfl, _, rfl, _, _, rfl, rfl, .inl ⟨by decide, by decide⟩, _, _, rfl, rfl, _, _, rfl, rfl, .inl (bd _), _, rfl, _, _, rfl, rfl, .inl ⟨by decide, by decide⟩, _, rfl, _, _, rfl, rfl, .inr ⟨?_, ?_⟩, _, _, rfl, rfl, _, _, rfl, rfl, _, _, rfl, rfl, ⟨by decide, by decide, key _⟩, .inl ⟨_, rfl, _, _, rfl, rfl, (by decide : (0 : Int) < 2147483629), ?_⟩⟩
          · omega
          · omega
          exact ⟨_, rfl, _, _, rfl, rfl, ⟨by decide, by decide⟩, .inl ⟨_, rfl, _, rfl, _, _, rfl, rfl, hm, q _ (n + 1) g H2 (hmix _).1 (hmix _).2 (Nat.le_refl _) hO2 ⟨hP2, hL2, hp.left⟩⟩⟩


/-- one of a list's things, one of a text's signs -/
def spPick (K : PySem.W.Frag) : Sp := fun vs H Q _ => ∃ (p l : Addr) (ns : List Int) (n : Nat) (g : Int) (y : V), vs = [.ref p, y] ∧ Pen H p l ns n g ∧ n < 1000000 ∧
  ((∃ (q : Addr) (xs : List V), y = .ref q ∧ q ≠ p ∧ H q = some (.lst xs) ∧ 0 < xs.length ∧ xs.length ≤ 1000 ∧
    ∀ (v : V) (n' : Nat) (g' : Int) (H' : Hp), v ∈ xs → n' ≤ n + 1 → Off p H H' → Pen H' p l ns n' g' → Q v H') ∨
   (∃ z : Str, y = .str z ∧ 0 < z.length ∧ z.length ≤ 1000 ∧
    ∀ (c : Nat) (n' : Nat) (g' : Int) (H' : Hp), c ∈ z.cps.toList → n' ≤ n + 1 → Off p H H' → Pen H' p l ns n' g' → Q (.str (⟨#[c]⟩)) H'))
theorem ok_pick {f fD : Addr} {fd fdD : FuncData} (F : Fun K "_law_pick" "_law_pick" sPick f fd) (ml : mg "len" = none) (FD : Fun K "_law_draw" "_law_draw" sDraw fD fdD) (bD : Binds K fdD ["_law_pen_here", "_law_many"] []) (gD : mg "_law_draw" = some (.ref fD))
    (GD : FnOk P w K mg base CX0 1 fD fdD ["_law_pen_here", "_law_many"] spDraw) : FnOk P w K mg base CX0 2 f fd ["_law_pen_here", "_law_some"] (spPick K) := by
  refine F.ok scPick (fun vs H Q E h => ?_) (fun cdv A outer s H vs Q E hr h => ?_)
  · obtain ⟨p, l, ns, n, g, y, rfl, _⟩ := h
    rfl
  · obtain ⟨p, l, ns, n, g, y, rfl, hp, hn, k⟩ := h
    refine ⟨_, pss_one (ps_ret (pe_ix (ix_list.or ix_str) (pv 1) (pe_call GD hr (by rfl) gD FD.kp bD .nil pass0 (pa_cons (pv 0) (pa_cons (pe_callB (So.CallR.or call_len_seq call_len_str) (by rfl) ml PySem.boot_len (pa_cons (pv 1) pa_nil)) pa_nil))) (fun _ _ => rfl))), ?_⟩
    rcases k with ⟨q, xs, rfl, hne, hq, h0, h1, k⟩ | ⟨z, rfl, h0, h1, k⟩
    · refine ⟨_, rfl, _, rfl, _, rfl, .inl ⟨q, _, rfl, .inl (SqL.of hq), p, l, ns, n, g, _, rfl, hp, hn, by omega, ?_, ?_⟩⟩
      · have : ((xs.length : Nat) : Int).natAbs = xs.length := Int.natAbs_natCast _
        rw [this]
        exact Nat.lt_of_le_of_lt h1 (by decide)
      · intro d n' g' H' d0 d1 hn' off pen
        obtain ⟨j, rfl⟩ : ∃ j : Nat, d = j := ⟨d.toNat, by omega⟩
        have hlt : j < xs.length := by omega
        exact .inl ⟨q, xs, j, xs[j], rfl, rfl, SqL.of (off q _ hne hq), atI_nat (List.getElem?_eq_getElem hlt), k _ n' g' H' (List.getElem_mem hlt) hn' off pen⟩
    · refine ⟨_, rfl, _, rfl, _, rfl, .inr ⟨z, rfl, Nat.le_trans h1 (by decide), p, l, ns, n, g, _, rfl, hp, hn, by omega, ?_, ?_⟩⟩
      · have : ((z.length : Nat) : Int).natAbs = z.length := Int.natAbs_natCast _
        rw [this]
        exact Nat.lt_of_le_of_lt h1 (by decide)
      · intro d n' g' H' d0 d1 hn' off pen
        obtain ⟨j, rfl⟩ : ∃ j : Nat, d = j := ⟨d.toNat, by omega⟩
        have hz : z.length = z.cps.toList.length := Array.length_toList.symm
        have hlt : j < z.cps.toList.length := by omega
        exact .inr ⟨z, j, z.cps.toList[j], rfl, rfl, Nat.le_trans h1 (by decide), atI_nat (List.getElem?_eq_getElem hlt), k _ n' g' H' (List.getElem_mem hlt) hn' off pen⟩
theorem Pen.new {H : Hp} {p l q : Addr} {ns : List Int} {n : Nat} {g : Int} {o : HO} (h : Pen H p l ns n g) (hq : H q = none) : Pen (upd H q o) p l ns n g :=
  ⟨(upd_ne (ne_of_none h.pen hq)).trans h.pen, (upd_ne (ne_of_none h.cells hq)).trans h.cells, h.left⟩
end
end K14

namespace K14
open PySem PySem.Spec PyProof.Rows L2 So
abbrev sWhole : Stmt := topS 15
abbrev sMoment : Stmt := topS 16
abbrev sName : Stmt := topS 17
abbrev sCheck : Stmt := topS 18
abbrev sWordOf : Stmt := topS 25
theorem scWhole : FnScope ["value"] ["value"] (defScope sWhole) := ⟨rfl, rfl, rfl, by decide +kernel, rfl, by decide +kernel, by decide +kernel⟩
theorem scMoment : FnScope ["value"] ["value"] (defScope sMoment) := ⟨rfl, rfl, rfl, by decide +kernel, rfl, by decide +kernel, by decide +kernel⟩
theorem scName : FnScope ["value", "sign"] ["value"] (defScope sName) := ⟨rfl, rfl, rfl, by decide +kernel, rfl, by decide +kernel, by decide +kernel⟩
theorem scCheck : FnScope ["value", "form"] ["value", "form"] (defScope sCheck) := ⟨rfl, rfl, rfl, by decide +kernel, rfl, by decide +kernel, by decide +kernel⟩
theorem scWordOf : FnScope ["value"] ["value"] (defScope sWordOf) := ⟨rfl, rfl, rfl, by decide +kernel, rfl, by decide +kernel, by decide +kernel⟩
/-! ### what a name is -/
def letters : Str := "abcdefghijklmnopqrstuvwxyz"
def digits : Str := "0123456789"
def noNames : List Str := ["begun", "setby", "found", "trusted", "passed", "failed", "agreed", "differed", "served", "backed", "sound", "unsound", "sure", "never", "open", "none", "record", "lot", "menu", "wanted"]
def isAln (c : Nat) : Bool := decide (c ∈ (letters ++ digits).cps.toList)
def isName (z : Str) : Bool := decide (1 ≤ z.length) && decide (z.length ≤ 8) && !(noNames.contains z) && decide (z.cps.toList.headD 0 ∈ letters.cps.toList) && z.cps.toList.all isAln
/-- the module's names that the words of the package read -/
structure Words (K : PySem.W.Frag) (mg : Str → Option Value) : Prop where
  greatest : ∃ t, mg "GREATEST" = some (.int 1000000000000000000000000000000 t)
  longest : ∃ t, mg "LONGEST_NAME" = some (.int 8 t)
  letters : ∃ t, mg "LETTERS" = some (.str letters t)
  digits : ∃ t, mg "DIGITS" = some (.str digits t)
  noNames : ∃ a, mg "NO_NAMES" = some (.ref a) ∧ ∀ H : Hp, SqT K H a (noNames.map V.str)
  isi : mg "isinstance" = none
  int : mg "int" = none
  bool : mg "bool" = none
  str : mg "str" = none
  len : mg "len" = none
  all : mg "all" = none
section
variable {P : Program} {w : World} {K : PySem.W.Frag} {mg : Str → Option Value} {base : Heap}
theorem kit_int_int : PySem.W.kitOne K (.type "int") (.type "int") = some true := kit_ty (by decide +kernel)
theorem kit_int_bool : PySem.W.kitOne K (.type "int") (.type "bool") = some false := kit_ty (by decide +kernel)
theorem kit_str_str : PySem.W.kitOne K (.type "str") (.type "str") = some true := kit_ty (by decide +kernel)
theorem kit_bool_bool : PySem.W.kitOne K (.type "bool") (.type "bool") = some true := kit_ty (by decide +kernel)

/-- the values that the law draws: what each is, by its type's name -/
inductive Gv (H : Hp) : V → String → Prop where
  | non : Gv H .non "NoneType"
  | bl (b : Bool) : Gv H (.bl b) "bool"
  | int (i : Int) : Gv H (.int i) "int"
  | str (z : Str) (h : z.length ≤ 2000) : Gv H (.str z) "str"
  | lst {a : Addr} {xs : List V} (e : H a = some (.lst xs)) : Gv H (.ref a) "list"
  | tup {a : Addr} {xs : List V} (e : H a = some (.tup xs)) : Gv H (.ref a) "tuple"
  | dK {a : Addr} {kvs : List (Key × V)} (e : H a = some (.dK kvs)) : Gv H (.ref a) "dict"
theorem Gv.ty {H : Hp} {v : V} {T : String} (h : Gv H v T) : TyX K H v (.type T) := by
  cases h with
  | non => exact .base .non
  | bl b => exact .base (.bl b)
  | int i => exact .base (.int i)
  | str z h => exact .base (.str z)
  | lst e => exact .base (.lst e)
  | tup e => exact .base (.tup e)
  | dK e => exact .base (.dK e)
theorem Gv.same {H H' : Hp} {v : V} {T : String} (h : Gv H v T) (s : Same H H') : Gv H' v T := by
  cases h with
  | non => exact .non
  | bl b => exact .bl b
  | int i => exact .int i
  | str z h => exact .str z h
  | lst e => exact .lst (s _ _ e)
  | tup e => exact .tup (s _ _ e)
  | dK e => exact .dK (s _ _ e)
theorem Gv.off {H H' : Hp} {v : V} {T : String} {p : Addr} (h : Gv H v T) (n : v ≠ .ref p) (s : Off p H H') : Gv H' v T := by
  cases h with
  | non => exact .non
  | bl b => exact .bl b
  | int i => exact .int i
  | str z h => exact .str z h
  | lst e => exact .lst (s _ _ (fun z => n (by rw [z])) e)
  | tup e => exact .tup (s _ _ (fun z => n (by rw [z])) e)
  | dK e => exact .dK (s _ _ (fun z => n (by rw [z])) e)
def gInt : V → Bool
  | .int _ => true
  | _ => false
def gMom : V → Bool
  | .int i => decide (0 ≤ i ∧ i ≤ 1000000000000000000000000000000)
  | _ => false
def gNam : V → Bool
  | .str z => isName z
  | _ => false
def gTru : V → Bool
  | .bl _ => true
  | _ => false
/-- what isinstance says of such a value and a built-in type -/
theorem Gv.kit {H : Hp} {v : V} {T : String} (h : Gv H v T) (c : String) (hc : c = "int" ∨ c = "bool" ∨ c = "str") : PySem.W.kitOne K (.type T) (.type c) = some (decide (T = c ∨ (T = "bool" ∧ c = "int"))) := by
  rcases hc with rfl | rfl | rfl <;> cases h <;> exact kit_ty (by decide +kernel)
/-- is_whole -/
def spWhole : Sp := fun vs H Q _ => ∃ (v : V) (T : String), vs = [v] ∧ Gv H v T ∧ Q (.bl (gInt v)) H
theorem ok_whole {f : Addr} {fd : FuncData} (F : Fun K "is_whole" "is_whole" sWhole f fd) (W : Words K mg) : FnOk P w K mg base CX0 1 f fd ["value"] spWhole := by
  refine F.ok scWhole (fun vs H Q E h => ?_) (fun cdv A outer s H vs Q E hr h => ?_)
  · obtain ⟨v, T, rfl, _⟩ := h
    rfl
  · obtain ⟨v, T, rfl, hv, q⟩ := h
    refine ⟨_, pss_one (ps_ret (pe_and (pe_callB call_isi (by rfl) W.isi (by decide +kernel) (pa_cons (pv 0) (pa_cons (pe_bltn (v := .ty "int") (by rfl) W.int (by decide +kernel) rfl) pa_nil)))
      (pe_one (pe_not (pe_callB call_isi (by rfl) W.isi (by decide +kernel) (pa_cons (pv 0) (pa_cons (pe_bltn (v := .ty "bool") (by rfl) W.bool (by decide +kernel) rfl) pa_nil))))))), ?_⟩
    refine ⟨_, rfl, _, _, _, _, _, rfl, .ty "int", hv.ty, hv.kit "int" (.inl rfl), _, rfl, ?_⟩
    cases hv with
    | int i =>
      refine iteT ?_
      exact ⟨_, rfl, _, _, _, _, false, rfl, .ty "bool", .base (.int i), kit_int_bool, _, rfl, q⟩
    | bl b =>
      refine iteT ?_
      exact ⟨_, rfl, _, _, _, _, true, rfl, .ty "bool", .base (.bl b), kit_bool_bool, _, rfl, q⟩
    | non => exact iteF q
    | str z h => exact iteF q
    | lst e => exact iteF q
    | tup e => exact iteF q
    | dK e => exact iteF q
/-- is_moment -/
def spMoment : Sp := fun vs H Q _ => ∃ (v : V) (T : String), vs = [v] ∧ Gv H v T ∧ Q (.bl (gMom v)) H
theorem ok_moment {f fW : Addr} {fd fdW : FuncData} (F : Fun K "is_moment" "is_moment" sMoment f fd) (W : Words K mg) (FW : Fun K "is_whole" "is_whole" sWhole fW fdW) (bW : Binds K fdW ["value"] []) (gW : mg "is_whole" = some (.ref fW)) :
    FnOk P w K mg base CX0 2 f fd ["value"] spMoment := by
  have GW : FnOk P w K mg base CX0 1 fW fdW ["value"] spWhole := ok_whole FW W
  refine F.ok scMoment (fun vs H Q E h => ?_) (fun cdv A outer s H vs Q E hr h => ?_)
  · obtain ⟨v, T, rfl, _⟩ := h
    rfl
  · obtain ⟨v, T, rfl, hv, q⟩ := h
    obtain ⟨tG, hG⟩ := W.greatest
    refine ⟨_, pss_one (ps_ret (pe_and (pe_call GW hr (by rfl) gW FW.kp bW .nil pass0 (pa_cons (pv 0) pa_nil)) (pe_one (pe_chain op_le op_le pe_int (pv 0) (pe_glob (v := .int 1000000000000000000000000000000) rfl hG ⟨_, rfl⟩))))), ?_⟩
    refine ⟨_, rfl, v, T, rfl, hv, gInt v, rfl, ?_⟩
    cases hv with
    | int i =>
      refine iteT ?_
      refine ⟨_, rfl, _, _, rfl, rfl, _, rfl, ite2 (fun e => ?_) (fun e => ?_)⟩
      · have e' : 0 ≤ i := of_decide_eq_true e
        refine ⟨_, _, rfl, rfl, ?_⟩
        have : gMom (.int i) = decide (i ≤ 1000000000000000000000000000000) := by simp [gMom, e']
        rw [this] at q
        exact q
      · have e' : ¬ 0 ≤ i := fun z => e (decide_eq_true z)
        have : gMom (.int i) = false := by simp [gMom, e']
        rw [this] at q
        exact q
    | bl b => exact iteF q
    | non => exact iteF q
    | str z h => exact iteF q
    | lst e => exact iteF q
    | tup e => exact iteF q
    | dK e => exact iteF q

theorem inV_strs (z : Str) : ∀ l : List Str, inV (.str z) (l.map V.str) = l.contains z
  | [] => rfl
  | x :: r => by
    have h := inV_strs z r
    have e : eqV (.str x) (.str z) = (z == x) := Bool.beq_comm (a := x) (b := z)
    show (eqV (.str x) (.str z) || inV (.str z) (r.map V.str)) = _
    rw [h, e, List.contains_cons]
theorem flat_strs (l : List Str) : (l.map V.str).all flatV = true := by
  rw [List.all_map]
  exact List.all_eq_true.mpr fun _ _ => rfl
theorem Same.over {H H1 : Hp} {D : Addr} {o : HO} (s : Same H H1) (h : H D = none) : Same H (upd H1 D o) := fun b u e => by
  rw [upd_ne (ne_of_none e h)]
  exact s b u e
/-- is_name -/
def spName : Sp := fun vs H Q _ => ∃ (v : V) (T : String), vs = [v] ∧ Gv H v T ∧ ∀ H', Same H H' → Q (.bl (gNam v)) H'
theorem ok_name {f : Addr} {fd : FuncData} (F : Fun K "is_name" "is_name" sName f fd) (W : Words K mg) : FnOk P w K mg base CX0 1 f fd ["value"] spName := by
  refine F.ok scName (fun vs H Q E h => ?_) (fun cdv A outer s H vs Q E hr h => ?_)
  · obtain ⟨v, T, rfl, _⟩ := h
    rfl
  · obtain ⟨v, T, rfl, hv, q⟩ := h
    obtain ⟨tL, hL⟩ := W.longest
    obtain ⟨tA, hA⟩ := W.letters
    obtain ⟨tD, hD⟩ := W.digits
    obtain ⟨aN, gN, hN⟩ := W.noNames
    have gA : ∀ {X : Cx}, X.mg = mg → True := fun _ => trivial
    refine ⟨_, pss_cons (ps_if (PW.pt (pw_or (pt_not (pt_val (pe_callB call_isi (by rfl) W.isi (by decide +kernel) (pa_cons (pv 0) (pa_cons (pe_bltn (v := .ty "str") (by rfl) W.str (by decide +kernel) rfl) pa_nil)))))
        (pw_or (pt_not (pt_chain op_le op_le pe_int (pe_callB call_len_str (by rfl) W.len PySem.boot_len (pa_cons (pv 0) pa_nil)) (pe_glob (v := .int 8) rfl hL ⟨_, rfl⟩)))
          (pw_or1 (pt_cmpR op_in_seq (pv 0) (pe_glob (v := .ref aN) rfl gN rfl) (by rfl))))))
        (pss_one (ps_ret pe_bl)) pss_nil)
      (pss_one (ps_ret (pe_and (pe_cmpR op_in_sign (pe_ix ix_str (pv 0) pe_int (fun _ _ => rfl)) (pe_glob (v := .str letters) rfl hA ⟨_, rfl⟩) (by rfl))
        (pe_one (pe_callB (cr_all rfl) (by rfl) W.all (by decide +kernel) (pa_cons (pe_lc (own := [("sign", 1)]) (g := gName 1) (tt := tYes) rfl scName.nd (pi_str (pv 0)) (blkOk_by (N := ["value", "sign"]) (sc := defScope sName) (by decide +kernel))
          (fun _ _ _ _ _ => pg_name (i := 1) scName.nd rfl (Or.inl rfl)) (fun _ _ _ _ _ => pts_nil)
          (fun _ _ _ _ _ => pe_cmpR op_in_sign (pv 1) (pe_op op_add_str (pe_glob (v := .str letters) rfl hA ⟨_, rfl⟩) (pe_glob (v := .str digits) rfl hD ⟨_, rfl⟩)) (by rfl))) pa_nil)))))), ?_⟩
    refine ⟨_, rfl, _, _, _, _, _, rfl, .ty "str", hv.ty, hv.kit "str" (.inr (.inr rfl)), _, rfl, ?_⟩
    cases hv with
    | non => exact iteT (q H (Same.refl H))
    | bl b => exact iteT (q H (Same.refl H))
    | int i => exact iteT (q H (Same.refl H))
    | lst e => exact iteT (q H (Same.refl H))
    | tup e => exact iteT (q H (Same.refl H))
    | dK e => exact iteT (q H (Same.refl H))
    | str z hz => ?_
    have q : ∀ H', Same H H' → Q (.bl (isName z)) H' := q
    have hzl : z.length ≤ sizeLine := Nat.le_trans hz (by decide)
    refine iteF ?_
    have no : isName z = false → Q (.bl false) H := fun e => by
      have := q H (Same.refl H)
      rw [e] at this
      exact this
    refine ⟨_, rfl, _, rfl, hzl, _, _, rfl, rfl, _, rfl, ite2 (fun c1 => ?_) (fun c1 => ⟨_, rfl, iteT (no ?_)⟩)⟩
    case refine_2 =>
      have c1' : ¬ (1 : Int) ≤ ((z.length : Nat) : Int) := fun e => c1 (decide_eq_true e)
      unfold isName
      rw [show decide (1 ≤ z.length) = false from decide_eq_false (by omega)]
      rfl
    have c1' : (1 : Int) ≤ ((z.length : Nat) : Int) := of_decide_eq_true c1
    refine ⟨_, _, rfl, rfl, _, rfl, ?_⟩
    by_cases c2 : ((z.length : Nat) : Int) ≤ 8
    case neg =>
      rw [decide_eq_false c2]
      refine iteT (no ?_)
      unfold isName
      rw [show decide (z.length ≤ 8) = false from decide_eq_false (by omega), Bool.and_false]
      rfl
    rw [decide_eq_true c2]
    refine iteF ⟨_, rfl, aN, _, rfl, .inr (hN H), rfl, flat_strs _, ?_⟩
    refine ⟨_, rfl, ?_⟩
    rw [show inV (.str z) (noNames.map V.str) = noNames.contains z from inV_strs z noNames]
    cases c3 : noNames.contains z with
    | true =>
      refine iteT (no ?_)
      unfold isName
      rw [c3, Bool.not_true, Bool.and_false]
      rfl
    | false =>
      refine iteF ?_
      have hz0 : 0 < z.cps.toList.length := by
        have : z.length = z.cps.toList.length := Array.length_toList.symm
        omega
      obtain ⟨c0, cr, hc⟩ : ∃ c0 cr, z.cps.toList = c0 :: cr := by
        cases e : z.cps.toList with
        | nil => rw [e] at hz0; cases hz0
        | cons a r => exact ⟨a, r, rfl⟩
      have e1 : decide (1 ≤ z.length) = true := decide_eq_true (by omega)
      have e2 : decide (z.length ≤ 8) = true := decide_eq_true (by omega)
      have e3 : isName z = (decide (c0 ∈ letters.cps.toList) && z.cps.toList.all isAln) := by
        unfold isName
        rw [e1, e2, c3, hc]
        rfl
      refine ⟨_, rfl, _, _, c0, rfl, rfl, hzl, ?_, _, _, rfl, rfl, _, rfl, ite2 (fun c4 => ?_) (fun c4 => ?_)⟩
      · rw [hc]
        exact atI_nat (j := 0) rfl
      · refine ⟨_, rfl, _, rfl, fun D hD => lc_it walk_str (fun i H' => H' D = some (.lst ((z.cps.toList.take i).map fun c => V.bl (isAln c))) ∧ Same H H') ⟨?_, ?_⟩ (fun _ _ _ _ => trivial) ?_ ?_⟩
        · exact upd_same
        · exact Same.over (Same.refl H) hD
        · rintro i x H1 H2 hi ⟨h1, s1⟩ ⟨rfl, c, hc1, rfl⟩
          have hc2 : z.cps.toList[i]? = some c := by
            rw [Array.getElem?_toList]
            exact hc1
          refine ⟨rfl, _, rfl, _, _, rfl, rfl, by decide, c, _, rfl, rfl, _, h1, ?_, ?_, Same.over s1 hD⟩
          · rw [List.length_map, List.length_take]
            have : z.cps.toList.length = z.length := Array.length_toList
            exact Nat.lt_of_le_of_lt (Nat.le_trans (Nat.min_le_right _ _) (by omega)) (by decide : 2000 < sizeLine)
          · rw [upd_same, List.take_add_one, hc2, List.map_append]
            rfl
        · rintro H1 ⟨h1, s1⟩
          refine ⟨D, z.cps.toList.map isAln, rfl, SqL.of ?_, ?_⟩
          · rw [h1, List.take_of_length_le (by rw [Array.length_toList]; exact Nat.le_refl _), List.map_map]
            rfl
          · have := q H1 s1
            rw [e3, show decide (c0 ∈ letters.cps.toList) = true from c4, Bool.true_and] at this
            rw [List.all_map]
            exact this
      · refine no ?_
        rw [e3]
        have : decide (c0 ∈ letters.cps.toList) = false := by
          cases h : decide (c0 ∈ letters.cps.toList) with
          | true => exact absurd h c4
          | false => rfl
        rw [this]
        rfl
end
end K14

namespace K14
open PySem PySem.Spec PyProof.Rows L2 So
abbrev sEN : Stmt := inClass (topS 3) 0
abbrev sEM : Stmt := inClass (topS 4) 0
abbrev sES : Stmt := inClass (topS 5) 0
theorem scEN : FnScope ["self", "name"] ["self", "name"] (defScope sEN) := ⟨rfl, rfl, rfl, by decide +kernel, rfl, by decide +kernel, by decide +kernel⟩
theorem scEM : FnScope ["self", "moment"] ["self", "moment"] (defScope sEM) := ⟨rfl, rfl, rfl, by decide +kernel, rfl, by decide +kernel, by decide +kernel⟩
theorem scES : FnScope ["self", "value"] ["self", "value"] (defScope sES) := ⟨rfl, rfl, rfl, by decide +kernel, rfl, by decide +kernel, by decide +kernel⟩
section
variable {P : Program} {w : World} {K : PySem.W.Frag} {mg : Str → Option Value} {base : Heap}
theorem ok_eN {C f : Addr} {fd : FuncData} (F : Fun K "__init__" "BadName.__init__" sEN f fd) (O : OneE K mg "BadName" "name" C f fd) : FnOk P w K mg base CX0 1 f fd ["self", "name"] (spOneE C "name") := by
  refine F.ok scEN (fun vs H Q E h => ?_) (fun cdv A outer s H vs Q E hr h => ?_)
  · obtain ⟨a, v, rfl, _⟩ := h
    rfl
  · obtain ⟨a, v, rfl, ha, q⟩ := h
    exact ⟨_, pss_one (ps_ost (pv 0) (pv 1)), _, rfl, _, rfl, a, C, rfl, O.T, O.no, .inl ⟨ha, fun dx h n => q dx h n⟩⟩
theorem ok_eM {C f : Addr} {fd : FuncData} (F : Fun K "__init__" "BadMoment.__init__" sEM f fd) (O : OneE K mg "BadMoment" "moment" C f fd) : FnOk P w K mg base CX0 1 f fd ["self", "moment"] (spOneE C "moment") := by
  refine F.ok scEM (fun vs H Q E h => ?_) (fun cdv A outer s H vs Q E hr h => ?_)
  · obtain ⟨a, v, rfl, _⟩ := h
    rfl
  · obtain ⟨a, v, rfl, ha, q⟩ := h
    exact ⟨_, pss_one (ps_ost (pv 0) (pv 1)), _, rfl, _, rfl, a, C, rfl, O.T, O.no, .inl ⟨ha, fun dx h n => q dx h n⟩⟩
theorem ok_eS {C f : Addr} {fd : FuncData} (F : Fun K "__init__" "BadSaying.__init__" sES f fd) (O : OneE K mg "BadSaying" "value" C f fd) : FnOk P w K mg base CX0 1 f fd ["self", "value"] (spOneE C "value") := by
  refine F.ok scES (fun vs H Q E h => ?_) (fun cdv A outer s H vs Q E hr h => ?_)
  · obtain ⟨a, v, rfl, _⟩ := h
    rfl
  · obtain ⟨a, v, rfl, ha, q⟩ := h
    exact ⟨_, pss_one (ps_ost (pv 0) (pv 1)), _, rfl, _, rfl, a, C, rfl, O.T, O.no, .inl ⟨ha, fun dx h n => q dx h n⟩⟩
/-- the three errors of arguments -/
structure Errs (K : PySem.W.Frag) (mg : Str → Option Value) (CN CM CS : Addr) : Prop where
  n : ∃ (f : Addr) (fd : FuncData), OneE K mg "BadName" "name" CN f fd ∧ Fun K "__init__" "BadName.__init__" sEN f fd
  m : ∃ (f : Addr) (fd : FuncData), OneE K mg "BadMoment" "moment" CM f fd ∧ Fun K "__init__" "BadMoment.__init__" sEM f fd
  s : ∃ (f : Addr) (fd : FuncData), OneE K mg "BadSaying" "value" CS f fd ∧ Fun K "__init__" "BadSaying.__init__" sES f fd
def gBeg : V → Bool
  | .int i => decide (1 ≤ i ∧ i ≤ 1000000000000000000000000000000)
  | _ => false
/-- the forms: whether a value has it, the class and the field of the error where not -/
def Form (CN CM CS : Addr) (form : Str) (v : V) (ok : Bool) (C : Addr) (fl : Str) : Prop :=
  (form = "name" ∧ ok = gNam v ∧ C = CN ∧ fl = "name") ∨ (form = "moment" ∧ ok = gMom v ∧ C = CM ∧ fl = "moment") ∨ (form = "beginning" ∧ ok = gBeg v ∧ C = CM ∧ fl = "moment") ∨ (form = "truth" ∧ ok = gTru v ∧ C = CS ∧ fl = "value")
theorem notS {a b : Str} (h : a ≠ b) : ¬ (decide (V.str a = V.str b) = true) := fun e => h (V.str.inj (of_decide_eq_true e))
def spCheck (CN CM CS : Addr) : Sp := fun vs H Q E => ∃ (v : V) (T : String) (form : Str) (ok : Bool) (C : Addr) (fl : Str), vs = [v, .str form] ∧ Gv H v T ∧ Form CN CM CS form v ok C fl ∧
  (ok = true → ∀ H', Same H H' → Q .non H') ∧ (ok = false → ∀ d H', Same H H' → H' d = some (.xd [(fl, v)]) → E (.ref C) (some d) H')
theorem ok_check {CN CM CS f fM fN : Addr} {fd fdM fdN : FuncData} (F : Fun K "check_form" "check_form" sCheck f fd) (W : Words K mg) (R : Errs K mg CN CM CS) (FM : Fun K "is_moment" "is_moment" sMoment fM fdM) (bM : Binds K fdM ["value"] []) (gM : mg "is_moment" = some (.ref fM))
    (GM : FnOk P w K mg base CX0 2 fM fdM ["value"] spMoment) (FN : Fun K "is_name" "is_name" sName fN fdN) (bN : Binds K fdN ["value"] []) (gN : mg "is_name" = some (.ref fN)) (GN : FnOk P w K mg base CX0 1 fN fdN ["value"] spName) :
    FnOk P w K mg base (L2.CX P w) 3 f fd ["value", "form"] (spCheck CN CM CS) := by
  obtain ⟨f1, fd1, O1, F1⟩ := R.n
  obtain ⟨f2, fd2, O2, F2⟩ := R.m
  obtain ⟨f3, fd3, O3, F3⟩ := R.s
  have G1 : FnOk P w K mg base CX0 1 f1 fd1 ["self", "name"] (spOneE CN "name") := ok_eN F1 O1
  have G2 : FnOk P w K mg base CX0 1 f2 fd2 ["self", "moment"] (spOneE CM "moment") := ok_eM F2 O2
  have G3 : FnOk P w K mg base CX0 1 f3 fd3 ["self", "value"] (spOneE CS "value") := ok_eS F3 O3
  refine F.okX scCheck (fun vs H Q E h => ?_) (fun cdv A outer s H vs Q E hr h => ?_)
  · obtain ⟨v, T, form, ok, C, fl, rfl, _⟩ := h
    rfl
  · obtain ⟨v, T, form, ok, C, fl, rfl, hv, hf, qy, qn⟩ := h
    have hr1 : Room 1 _ := hr.mono (by decide)
    refine ⟨_, pss_cons (ps_if (PW.pt (pw_and (pt_cmpR op_eq (pv 1) pe_str (nomark _)) (pw_and1 (pt_not (pt_val (pe_call GN hr1 (by rfl) gN FN.kp bN .nil pass0 (pa_cons (pv 0) pa_nil))))))) (pss_one (ps_raiseOne O1 G1 rfl hr (takes_of rfl rfl rfl rfl) (by rfl) (pa_cons (pv 0) pa_nil))) pss_nil)
      (pss_cons (ps_if (PW.pt (pw_and (pt_cmpR op_eq (pv 1) pe_str (nomark _)) (pw_and1 (pt_not (pt_val (pe_call GM hr (by rfl) gM FM.kp bM .nil pass0 (pa_cons (pv 0) pa_nil))))))) (pss_one (ps_raiseOne O2 G2 rfl hr (takes_of rfl rfl rfl rfl) (by rfl) (pa_cons (pv 0) pa_nil))) pss_nil)
      (pss_cons (ps_if (PW.pt (pw_and (pt_cmpR op_eq (pv 1) pe_str (nomark _)) (pw_and1 (pt_not (PW.pt (pw_and (pt_val (pe_call GM hr (by rfl) gM FM.kp bM .nil pass0 (pa_cons (pv 0) pa_nil))) (pw_and1 (pt_cmpR op_gt (pv 0) pe_int (nomark _))))))))) (pss_one (ps_raiseOne O2 G2 rfl hr (takes_of rfl rfl rfl rfl) (by rfl) (pa_cons (pv 0) pa_nil))) pss_nil)
      (pss_one (ps_if (PW.pt (pw_and (pt_cmpR op_eq (pv 1) pe_str (nomark _)) (pw_and1 (pt_not (pt_val (pe_callB call_isi (by rfl) W.isi (by decide +kernel) (pa_cons (pv 0) (pa_cons (pe_bltn (v := .ty "bool") (by rfl) W.bool (by decide +kernel) rfl) pa_nil))))))))
        (pss_one (ps_raiseOne O3 G3 rfl hr (takes_of rfl rfl rfl rfl) (by rfl) (pa_cons (pv 0) pa_nil))) pss_nil)))), ?_⟩
    rcases hf with ⟨rfl, rfl, rfl, rfl⟩ | ⟨rfl, rfl, rfl, rfl⟩ | ⟨rfl, rfl, rfl, rfl⟩ | ⟨rfl, rfl, rfl, rfl⟩
    · refine ⟨_, rfl, rfl, _, rfl, ite2 (fun _ => ?_) (fun e => absurd (decide_eq_true rfl) e)⟩
      refine ⟨_, rfl, v, T, rfl, hv, fun H1 s1 => ⟨_, rfl, ?_⟩⟩
      cases hg : gNam v with
      | true =>
        refine iteF ?_
        refine ⟨_, rfl, rfl, _, rfl, ite2 (fun e => absurd e (notS (by decide +kernel))) (fun _ => ?_)⟩
        refine ⟨_, rfl, rfl, _, rfl, ite2 (fun e => absurd e (notS (by decide +kernel))) (fun _ => ?_)⟩
        refine ⟨_, rfl, rfl, _, rfl, ite2 (fun e => absurd e (notS (by decide +kernel))) (fun _ => ?_)⟩
        exact qy hg H1 s1
      | false =>
        refine iteT ?_
        exact ⟨_, rfl, mkOne rfl fun d H' s2 _ e => qn hg d H' (s1.trans s2) e⟩
    · refine ⟨_, rfl, rfl, _, rfl, ite2 (fun e => absurd e (notS (by decide +kernel))) (fun _ => ?_)⟩
      refine ⟨_, rfl, rfl, _, rfl, ite2 (fun _ => ?_) (fun e => absurd (decide_eq_true rfl) e)⟩
      refine ⟨_, rfl, v, T, rfl, hv, _, rfl, ?_⟩
      cases hg : gMom v with
      | true =>
        refine iteF ?_
        refine ⟨_, rfl, rfl, _, rfl, ite2 (fun e => absurd e (notS (by decide +kernel))) (fun _ => ?_)⟩
        refine ⟨_, rfl, rfl, _, rfl, ite2 (fun e => absurd e (notS (by decide +kernel))) (fun _ => ?_)⟩
        exact qy hg H (Same.refl H)
      | false =>
        refine iteT ?_
        exact ⟨_, rfl, mkOne rfl fun d H' s2 _ e => qn hg d H' s2 e⟩
    · refine ⟨_, rfl, rfl, _, rfl, ite2 (fun e => absurd e (notS (by decide +kernel))) (fun _ => ?_)⟩
      refine ⟨_, rfl, rfl, _, rfl, ite2 (fun e => absurd e (notS (by decide +kernel))) (fun _ => ?_)⟩
      refine ⟨_, rfl, rfl, _, rfl, ite2 (fun _ => ?_) (fun e => absurd (decide_eq_true rfl) e)⟩
      refine ⟨_, rfl, v, T, rfl, hv, _, rfl, ?_⟩
      have no : gBeg v = false → tMkO C (spOneE C "moment") [] (tCons (tVar 0) tNil) [some v, some (.str "beginning")] H fun cls d H' => E cls d H' := fun e =>
        ⟨_, rfl, mkOne rfl fun d H' s2 _ e2 => qn e d H' s2 e2⟩
      cases hg : gMom v with
      | true =>
        refine iteT ?_
        obtain ⟨i, rfl⟩ : ∃ i, v = .int i := by
          cases v with
          | int i => exact ⟨i, rfl⟩
          | _ => cases hg
        have hi : 0 ≤ i ∧ i ≤ 1000000000000000000000000000000 := of_decide_eq_true hg
        refine ⟨_, rfl, _, _, rfl, rfl, _, rfl, ?_⟩
        by_cases z : 0 < i
        · rw [show decide (i > 0) = true from decide_eq_true z]
          refine iteF ?_
          refine ⟨_, rfl, rfl, _, rfl, ite2 (fun e => absurd e (notS (by decide +kernel))) (fun _ => ?_)⟩
          exact qy (decide_eq_true ⟨by omega, hi.2⟩) H (Same.refl H)
        · rw [show decide (i > 0) = false from decide_eq_false z]
          refine iteT ?_
          exact no (decide_eq_false (by omega))
      | false =>
        refine iteF (iteT (no ?_))
        cases v with
        | int i =>
          have : ¬ (0 ≤ i ∧ i ≤ 1000000000000000000000000000000) := of_decide_eq_false hg
          exact decide_eq_false (by omega)
        | _ => rfl
    · refine ⟨_, rfl, rfl, _, rfl, ite2 (fun e => absurd e (notS (by decide +kernel))) (fun _ => ?_)⟩
      refine ⟨_, rfl, rfl, _, rfl, ite2 (fun e => absurd e (notS (by decide +kernel))) (fun _ => ?_)⟩
      refine ⟨_, rfl, rfl, _, rfl, ite2 (fun e => absurd e (notS (by decide +kernel))) (fun _ => ?_)⟩
      refine ⟨_, rfl, rfl, _, rfl, ite2 (fun _ => ?_) (fun e => absurd (decide_eq_true rfl) e)⟩
      refine ⟨_, rfl, _, _, _, _, _, rfl, .ty "bool", hv.ty, hv.kit "bool" (.inr (.inl rfl)), _, rfl, ?_⟩
      have no : gTru v = false → tMkO C (spOneE C "value") [] (tCons (tVar 0) tNil) [some v, some (.str "truth")] H fun cls d H' => E cls d H' := fun e =>
        ⟨_, rfl, mkOne rfl fun d H' s2 _ e2 => qn e d H' s2 e2⟩
      cases hv with
      | bl b => exact iteF (qy rfl H (Same.refl H))
      | non => exact iteT (no rfl)
      | int i => exact iteT (no rfl)
      | str z h => exact iteT (no rfl)
      | lst e => exact iteT (no rfl)
      | tup e => exact iteT (no rfl)
      | dK e => exact iteT (no rfl)
end
end K14

namespace K14
open PySem PySem.Spec PyProof.Rows L2 So
abbrev sWords : Stmt := topS 52
theorem scWords : FnScope ["_law_some"] [] (defScope sWords) := ⟨rfl, rfl, rfl, by decide +kernel, rfl, by decide +kernel, by decide +kernel⟩
theorem cut63 (xs : List V) : cutV xs none (some 63) = xs.take 63 := by
  unfold cutV
  rw [HT.sIx_none, show HT.sIx xs.length xs.length (some 63) = min 63 xs.length from HT.sIx_nat xs.length xs.length 63]
  simp
theorem same_upd0 {H : Hp} {p : Addr} {o : HO} (h : H p = none) : Same H (upd H p o) := Same.over (Same.refl H) h
theorem same3 {H : Hp} {a b c : Addr} {o1 o2 o3 : HO} (ha : H a = none) (hb : upd H a o1 b = none) (hc : upd (upd H a o1) b o2 c = none) : Same H (upd (upd (upd H a o1) b o2) c o3) ∧ H c = none :=
  have s2 := (same_upd0 (o := o1) ha).trans (same_upd0 (o := o2) hb)
  ⟨s2.trans (same_upd0 hc), s2.free hc⟩
section
variable {P : Program} {w : World} {K : PySem.W.Frag} {mg : Str → Option Value} {base : Heap}
def spPen (K : PySem.W.Frag) : Sp := fun vs H Q _ => ∃ (a : Addr) (ns : List Int), vs = [.ref a] ∧ SqL K H a (ns.map V.int) ∧ ∀ (H' : Hp) (p l : Addr) (ns' : List Int), Same H H' → Pen H' p l ns' 0 0 → Q (.ref p) H'
theorem ok_pen {f : Addr} {fd : FuncData} (F : Fun K "_law_pen" "_law_pen" sPen f fd) (ml : mg "list" = none) : FnOk P w K mg base CX0 1 f fd ["_law_script"] (spPen K) := by
  refine F.ok scPen (fun vs H Q E h => ?_) (fun cdv A outer s H vs Q E hr h => ?_)
  · obtain ⟨a, ns, rfl, _⟩ := h
    rfl
  · obtain ⟨a, ns, rfl, hS, q⟩ := h
    refine ⟨_, pss_one (ps_ret (pe_lst (pa_cons (pe_callTy call_list_of (by rfl) ml (by decide +kernel) (pa_cons (pe_slice sl_list (pv 0) po_none (po_some pe_int)) pa_nil)) (pa_cons pe_int (pa_cons pe_int pa_nil))))), ?_⟩
    refine ⟨_, rfl, 63, rfl, a, ns.map V.int, rfl, hS, fun c hc => ?_⟩
    rw [cut63, ← List.map_take]
    refine ⟨c, _, rfl, .inl (SqL.of upd_same), fun l hl => ?_⟩
    refine ⟨by show 3 ≤ sizeLine; decide, fun p hp => ?_⟩
    have s1 : Same H (upd (upd (upd H c (.lst ((ns.take 63).map V.int))) l (.lst ((ns.take 63).map V.int))) p (.lst [.ref l, .int 0, .int 0])) := by
      refine ((same_upd0 hc).trans (same_upd0 hl)).trans (same_upd0 hp)
    have nlp : l ≠ p := fun e => by
      rw [e, upd_same] at hp
      cases hp
    exact q _ p l (ns.take 63) s1 ⟨upd_same, (upd_ne nlp).trans upd_same, Int.le_refl 0⟩
/-- the words that are no names -/
def spWords : Sp := fun vs H Q _ => vs = [] ∧ ∀ (H' : Hp) (a : Addr), Same H H' → H a = none → H' a = some (.lst (noNames.map V.str)) → Q (.ref a) H'
theorem ok_words {f : Addr} {fd : FuncData} (F : Fun K "_law_words" "_law_words" sWords f fd) : FnOk P w K mg base CX0 1 f fd [] spWords := by
  refine F.ok scWords (fun vs H Q E h => ?_) (fun cdv A outer s H vs Q E hr h => ?_)
  · obtain ⟨rfl, _⟩ := h
    rfl
  · obtain ⟨rfl, q⟩ := h
    refine ⟨_, (pss_cons (ps_set (i := 0) scWords.nd rfl (.inl rfl) (pe_lst (pa_cons pe_str (pa_cons pe_str (pa_cons pe_str (pa_cons pe_str (pa_cons pe_str (pa_cons pe_str (pa_cons pe_str (pa_cons pe_str (pa_cons pe_str (pa_cons pe_str pa_nil))))))))))))
      (pss_one (ps_ret (pe_op op_cat (pv 0) (pe_lst (pa_cons pe_str (pa_cons pe_str (pa_cons pe_str (pa_cons pe_str (pa_cons pe_str (pa_cons pe_str (pa_cons pe_str (pa_cons pe_str (pa_cons pe_str (pa_cons pe_str pa_nil))))))))))))))), ?_⟩
    refine ⟨by show 10 ≤ sizeLine; decide, fun a ha => ?_⟩
    refine ⟨_, rfl, by show 10 ≤ sizeLine; decide, fun b hb => ?_⟩
    refine ⟨a, b, _, _, rfl, rfl, (upd_ne (ne_of_none upd_same hb)).trans upd_same, upd_same, by show 20 ≤ sizeLine; decide, fun c hc => ?_⟩
    exact q _ c (same3 ha hb hc).1 (same3 (o3 := .lst []) ha hb hc).2 upd_same
end
end K14

/-! enumerate(a tuple) as what a for goes through -/
namespace So
open PySem PySem.Spec PyProof.Rows L2
/-- enumerate(v): what pyIter of v makes, in an enumerate's cell -/
theorem enum_new1 {v : Value} {o : Obj} {Hp0 : Heap → Prop} (B : Begins v o Hp0) : Meets (Builtin.«enumerate.__new__» ⟨[.type "enumerate", v], []⟩) (fun _ R s => Hp0 s.heap ∧
    R (.ok (.ret (.ref (s.heap.push o).objs.size))) { s with heap := (s.heap.push o).push { cls := .type "enumerate", data := .fields #[.none, .bool false, .ref s.heap.objs.size, rawInt 0, .none, .none] } }) :=
  .of_wp fun prog w A R s h => by
    obtain ⟨hp, g, d, tk, os⟩ := s
    obtain ⟨h1, h⟩ := h
    have hsub := sub_enumerate
    have q1 : ∀ {A' : Around} {E : Value → Shared → Prop} {Q : Value → Shared → Prop}, Q (.ref hp.objs.size) ⟨hp.push o, g, d, tk, os⟩ → wpAny (model prog w) A' (pyIter v) Q E ⟨hp, g, d, tk, os⟩ :=
      fun q => B.iter prog w _ _ ⟨hp, g, d, tk, os⟩ _ h1 q
    wp_walk using q1
    refine wpAny_stack_any fun st => wpAny_pure ?_
    split
    · rename_i c _ _ _ _ _
      cases (c == Value.type "enumerate") <;> (wp_walk using q1; exact ⟨_, rfl, h⟩)
    · wp_walk using q1
      exact ⟨_, rfl, h⟩
/-- behind the last item -/
theorem enum_endT {prog : Program} {w : World} {A : Around} {E : Value → Shared → Prop} {s : Shared} {e it a : Addr} {i : Int} {j : Nat} {items : Array Value} {old : Value} {Q : Option Value → Shared → Prop} (hh : A.handled = none) (he : IsEnum s.heap e it i old)
    (hit : s.heap.IsTupleIter it a j) (ht : s.heap.IsTuple a items) (hx : items[j]? = none) (hQ : ∀ h', Heap.ExtBut it s.heap h' → Q none { s with heap := h' }) : wpAny (model prog w) A (pyNext (.ref e)) Q E s := by
  have hT : s.TypeIs (.ref e) "enumerate" := ⟨_, he, rfl⟩
  unfold pyNext
  refine wpAny_bind (wpAny_attempt (wpAny_callSpecial?_slot (name := Str.ofString "__next__") hT PySem.F.slot_enumerate_next (wpAny_call_entry PySem.F.slot_enumerate_next hT PySem.F.entry_enumerate_next ?_ (PySem.F.args_enumerate_next_1 _))))
  show wpAny _ _ (field (.ref e) 2 >>= _) _ _ _
  refine wpAny_bind (wpAny_field he rfl (x := .ref it) rfl (wpAny_bind (wpAny_nextOf_tuple_end (A := A.in1) hh hit ht hx fun h' x he' hx' => ?_)))
  obtain ⟨o, ho, hc⟩ := hx'
  exact wpAny_bind (wpAny_isInstance (T := "StopIteration") (b := true) ⟨o, ho, hc⟩ isSubtype_stop (wpAny_pure (hQ _ he')))
/-- the tuple at a, each item in a new pair with its index -/
def IteT (K : PySem.W.Frag) (a : Addr) : It :=
  ⟨fun i H => ∃ (xs : List V) (x : V), SqT K H a xs ∧ xs[i]? = some x, fun i H v H' => ∃ T x, v = .ref T ∧ H T = none ∧ H' = upd H T (.tup [.int (i : Nat), x]) ∧ ∀ xs, SqT K H a xs → xs[i]? = some x, fun i H => ∃ xs : List V, SqT K H a xs ∧ xs.length ≤ i⟩
theorem walk_enumT {K : PySem.W.Frag} {a : Addr} {xs : List V} : Walk (IteT K a) xs.length (fun H => SqT K H a xs) (YPair (fun i => some (.int (i : Nat))) (fun i => xs[i]?)) := by
  refine ⟨fun i _ hi q => ⟨xs, xs[i], q, by simp [hi]⟩, fun _ q => ⟨xs, q, Nat.le_refl _⟩, fun i H v H' _ q y => ?_⟩
  obtain ⟨T, x, h1, h2, h3, h4⟩ := y
  exact ⟨T, .int (i : Nat), x, h1, h2, h3, rfl, h4 xs q⟩
theorem turn_enumT {P : Program} {w : World} {K : PySem.W.Frag} {elts : List Expr} {kk : Nat} {tpos : Pos} (a e it : Addr) :
    Turn P w K (.Tuple elts kk tpos) (IteT K a) [e, it] e (fun i h => (∃ old, IsEnum h e it ((i : Nat) : Int) old) ∧ h.IsTupleIter it a i ∧ e ≠ it ∧ a ≠ it ∧ a ≠ e) where
  mem := by simp
  obj := fun i h st b hb => by
    obtain ⟨⟨old, he⟩, ⟨o, ho, hc, hd⟩, _⟩ := st
    have e' : b = e ∨ b = it := by simpa using hb
    rcases e' with z | z
    · rw [z]
      exact ⟨_, he, fun v q => nomatch q⟩
    · rw [z]
      exact ⟨o, ho, fun v q => by rw [hd] at q; cases q⟩
  keep := fun i h h' st k => by
    obtain ⟨⟨old, he⟩, hi, ne⟩ := st
    exact ⟨⟨old, k e (by simp) _ he⟩, hi.at fun o q => k it (by simp) o q, ne⟩
  item := by
    intro X hP hw hK hc i pins s σ H E I hf st hg
    subst hP hw hK
    obtain ⟨⟨old, he⟩, hit, ne, nai, nae⟩ := st
    obtain ⟨xs, x, hq, hx⟩ := hg
    obtain ⟨its, rv, p, hz⟩ := I.tuple hq
    obtain ⟨u, hu, ru⟩ := rv.get hx
    have hel : e < s.heap.objs.size := Heap.lt_size he
    have hil : it < s.heap.objs.size := by
      obtain ⟨_, q, _⟩ := hit
      exact Heap.lt_size q
    have hT0 : s.heap.IsTuple a its.toArray := p
    have hi : i < its.toArray.size := by
      have := (List.getElem?_eq_some_iff.mp hu).1
      simpa using this
    refine wpAny_pyNext_enum_itemD (Draws.tuple (A := X.A.in1) (show X.A.in1.handled = none from I.ok.hd hc) it a nai its.toArray) he ⟨hit, hT0⟩ hi ne (by simp [ne, Ne.symm nae]) fun x' h' tk hp ho hst hT hsz hk => ?_
    have ex : x' = u := by
      have h1 : its.toArray[i]? = some x' := hp
      have h2 : its.toArray[i]? = some u := by simpa using hu
      exact Option.some.inj (h1.symm.trans h2)
    subst ex
    refine ⟨_, rfl, wpAny_letOwnedTupleGo_enum (s := { s with heap := h', toks := tk + 1 }) ho fun h'' he' sb => ?_⟩
    have hT2 : h''.get? s.heap.objs.size = some { cls := .type "tuple", data := .seq #[.int i tk, x'] } := (sb.2 _ (Nat.ne_of_gt hel)).trans hT
    have new : ObjOk X.prog X.w (upd H s.heap.objs.size (.tup [.int (i : Nat), x])) h'' s.heap.objs.size (.tup [.int (i : Nat), x]) :=
      ⟨by show 2 ≤ sizeLine; decide, [.int i tk, x'], .cons ⟨_, rfl⟩ (.cons ru .nil), ⟨_, hT2, rfl, _, rfl⟩⟩
    have I1 : Inv X pins σ (upd H s.heap.objs.size (.tup [.int (i : Nat), x])) { s with heap := h'', toks := tk + 1 } :=
      I.turnedNew (ch := [e, it]) (fun b ob hb q => (sb.2 b (fun z => hb (by simp [z]))).trans (hk b ob (fun z => hb (by simp [z])) (fun z => hb (by simp [z])) q)) hf (Nat.le_refl _) new
    refine ⟨.ref s.heap.objs.size, _, I1, rfl, ⟨_, x, rfl, I.hok.fresh (Nat.le_refl _), rfl, fun ys hy => by rw [I.tuple_inj hy hq]; exact hx⟩, ⟨⟨x', ?_⟩, hst.1.at fun o q => (sb.2 it (Ne.symm ne)).trans q, ne, nai, nae⟩, fun b hb => ?_⟩
    · have e1 : ((i + 1 : Nat) : Int) = (i : Int) + 1 := by omega
      rw [e1]
      exact he'
    · have hb' : b < s.heap.objs.size := by
        have e' : b = e ∨ b = it := by simpa using hb
        rcases e' with z | z
        · rw [z]
          exact hel
        · rw [z]
          exact hil
      rw [upd_ne (Nat.ne_of_lt hb')]
      exact (hf b hb).1
  done := by
    intro X hP hw hK hc i pins s σ H E I hf st hg
    subst hP hw hK
    obtain ⟨⟨old, he⟩, hit, ne, nai, nae⟩ := st
    obtain ⟨xs, hq, hx⟩ := hg
    obtain ⟨its, rv, p, hz⟩ := I.tuple hq
    obtain ⟨f0, f1, f2, f3, f4, f5⟩ := hf it (by simp)
    have hl := rv.length
    exact enum_endT (I.ok.hd hc) he hit (show s.heap.IsTuple a its.toArray from p) (by simp; omega) fun h' eb => ⟨rfl, I.turned (t' := s.toks) (fun b o hb q => eb b o hb q) f0 f1 f3 f4 f5⟩
  self := fun A i s Q E st h => by
    obtain ⟨⟨_, he⟩, _⟩ := st
    exact wpAny_pyIter_enum he h
def iEnumT (K : PySem.W.Frag) (ta : TA) : TI := fun σ H R => ta σ H fun vs H1 => ∃ a xs, vs = [.ref a] ∧ SqT K H1 a xs ∧ R (IteT K a) H1
theorem pi_enumT {X : Cx} {e : Expr} {ta : TA} {p pos tpos : Pos} {elts : List Expr} {kk : Nat} (hg : Gl X "enumerate") (hm : X.mg "enumerate" = none) (ha : PA X [e] ta) (hs : starEach [e] X.env = [(false, eval e X.env)] := by rfl) :
    PI X (.Tuple elts kk tpos) (.Call (.Name "enumerate" p) [e] [] pos) (iEnumT X.K ta) := by
  refine ⟨fun pins s σ H R I h => ?_⟩
  refine Call_ (ld_blt I hg hm boot_enumerate (PyProof.Rows.callWith_type1 (thn (ha.run pos pins s σ H _ I h) fun us s1 ⟨vs, H1, I1, r1, q1⟩ => ?_) hs rfl))
  obtain ⟨a, xs, rfl, hq, q⟩ := q1
  obtain ⟨u, rfl, ru⟩ := vals1 r1
  obtain rfl : u = Value.ref a := ru
  obtain ⟨its, rv, p', hz⟩ := I1.tuple hq
  have ht : s1.heap.IsTuple a its.toArray := p'
  have al : a < s1.heap.objs.size := by
    obtain ⟨o, ho, _⟩ := ht
    exact Heap.lt_size ho
  have sz : (s1.heap.push { cls := .type "tuple_iterator", data := .fields #[.ref a, .int 0 0] }).objs.size = s1.heap.objs.size + 1 := Heap.size_push ..
  refine callType_new PySem.F.called_enumerate (by decide) (PySem.F.typeCall_enumerate_1 _) (PySem.F.newCall_enumerate_1 _) (fun obj => PySem.F.args_object_init_2 obj _) PySem.F.entry_enumerate_new (enum_new1 (begins_tuple a its.toArray)) ⟨ht, ?_⟩
  show _ ∧ _
  rw [sz]
  have he : IsEnum ((s1.heap.push { cls := .type "tuple_iterator", data := .fields #[.ref a, .int 0 0] }).push { cls := .type "enumerate", data := .fields #[.none, .bool false, .ref s1.heap.objs.size, rawInt 0, .none, .none] }) (s1.heap.objs.size + 1) s1.heap.objs.size 0 .none := by
    have := Heap.get?_push_size (s1.heap.push { cls := .type "tuple_iterator", data := .fields #[.ref a, .int 0 0] }) (o := { cls := .type "enumerate", data := .fields #[.none, .bool false, .ref s1.heap.objs.size, rawInt 0, .none, .none] }) rfl
    rw [sz] at this
    exact this
  refine ⟨⟨_, he, rfl⟩, wpAny_pyIter_enum he ?_⟩
  have I2 : Inv X pins σ H1 { s1 with heap := (s1.heap.push { cls := .type "tuple_iterator", data := .fields #[.ref a, .int 0 0] }).push { cls := .type "enumerate", data := .fields #[.none, .bool false, .ref s1.heap.objs.size, rawInt 0, .none, .none] } } :=
    I1.kept (t' := s1.toks) fun b o x => Heap.get?_push_of_some _ (Heap.get?_push_of_some _ x)
  refine ⟨s1.heap.objs.size + 1, [s1.heap.objs.size + 1, s1.heap.objs.size], _, _, H1, rfl, I2, turn_enumT a (s1.heap.objs.size + 1) s1.heap.objs.size, ⟨⟨.none, he⟩, ⟨_, Heap.get?_push_of_some _ (Heap.get?_push_size _ rfl), rfl, rfl⟩, Nat.succ_ne_self _, Nat.ne_of_lt al, Nat.ne_of_lt (Nat.lt_succ_of_lt al)⟩, fun b hb => ?_, q⟩
  have e' : b = s1.heap.objs.size + 1 ∨ b = s1.heap.objs.size := by simpa using hb
  have hle : s1.heap.objs.size ≤ b := by
    rcases e' with z | z
    · rw [z]
      exact Nat.le_add_right _ _
    · rw [z]
      exact Nat.le_refl _
  exact I1.fpOk hle (I1.hok.fresh hle)
end So

/-! a method whose body is the one row super().m(..) -/
namespace So
open PySem PySem.Spec PyProof.Rows L2
/-- the env of a def that closes over its class's cell -/
abbrev envS (qual : Str) (scope : Scope) (L f : Addr) (cd : Value) (cc : Addr) : Env := PySem.W.ksEnv qual scope L f cd cc
def cxS (CX : CXT) (P : Program) (w : World) (K : PySem.W.Frag) (mg : Str → Option Value) (base : Heap) (N : List Str) (qual : Str) (scope : Scope) (f : Addr) (cd : Value) (cc : Addr) (A : Around) (outer : List Env) (s : Shared) (H : Hp) (E : XK) : Cx where
  prog := P
  w := w
  K := K
  mg := mg
  base := base
  A := A.deeper (envS qual scope s.heap.objs.size f cd cc)
  N := N
  s_0 := s
  H_0 := H
  env := envS qual scope s.heap.objs.size f cd cc
  outer := outer
  stack := envS qual scope s.heap.objs.size f cd cc :: outer
  ex := []
  calm := true
  fn := fun _ => false
  pn := []
  xe := fun e s' => wpAny (model P w) (A.deeper (envS qual scope s.heap.objs.size f cd cc)) (leaving (envS qual scope s.heap.objs.size f cd cc) e) (fun _ s'' => CX outer H s E e s'') (fun e' s'' => CX outer H s E e' s'') s'
/-- the names of such a def: all of them parameters, super and its class beside -/
structure SupScope (ps : List Str) (sc : Scope) : Prop where
  kind : sc.kind = .function
  co : sc.isCoroutine = false
  gen : sc.isGenerator = false
  nd : ps.Nodup
  par : ∀ x ∈ ps, sc.names.lookup x = some .local
  nocell : ∀ y ∈ sc.names, y.2 ≠ .cell
  free : ∀ y, sc.names.lookup y = some .free → y = "__class__"
  sup : sc.names.lookup ("super" : Str) = some .globalImplicit
  cls : sc.names.lookup ("__class__" : Str) = some .free
section
variable {CX : CXT} {P : Program} {w : World} {K : PySem.W.Frag} {mg : Str → Option Value} {base : Heap} {ps : List Str} {qual : Str} {scope : Scope} {f cc D : Addr} {cd : Value} {A : Around} {outer : List Env} {s : Shared} {H : Hp} {E : XK} {us : List Value} {vs : List V} {h₀ : Heap} {tk : Nat}
theorem zip_sub : ∀ (ps : List Str) (us : List Value), ((ps.zip us).map Prod.fst).Sublist ps
  | [], _ => by simp
  | p :: r, [] => by simp
  | p :: r, u :: t => by
    rw [List.zip_cons_cons, List.map_cons]
    exact (zip_sub r t).cons_cons p
theorem bindL_rev {qual : Str} {L f : Addr} {cd : Value} {x : Str} {v : Value} {us : List Value} {i : Nat} (nd : ps.Nodup) (h1 : ps[i]? = some x) (h2 : us[i]? = some v) : (ps.zip us).reverse.lookup x = some v := by
  have hm : (x, v) ∈ ps.zip us := by
    refine List.mem_of_getElem? (i := i) ?_
    rw [List.getElem?_zip_eq_some]
    exact ⟨h1, h2⟩
  have nd2 : ((ps.zip us).reverse.map Prod.fst).Nodup := by
    rw [List.map_reverse]
    have n0 : ((ps.zip us).map Prod.fst).Nodup := nd.sublist (zip_sub ps us)
    show List.Pairwise (· ≠ ·) _
    rw [List.pairwise_reverse]
    exact List.Pairwise.imp (fun h => Ne.symm h) n0
  have hm2 : (x, v) ∈ (ps.zip us).reverse := List.mem_reverse.mpr hm
  revert hm2 nd2
  generalize (ps.zip us).reverse = l
  intro nd2 hm2
  induction l with
  | nil => cases hm2
  | cons p r ih =>
    obtain ⟨y, u⟩ := p
    rw [List.map_cons, List.nodup_cons] at nd2
    rcases List.mem_cons.mp hm2 with e | e
    · cases e
      simp [List.lookup]
    · have ne : x ≠ y := fun z => nd2.1 (by
        rw [← z]
        exact List.mem_map.mpr ⟨_, e, rfl⟩)
      have : (x == y) = false := by simp [ne]
      rw [List.lookup_cons, this]
      exact ih nd2.2 e
theorem inv_sup (S : SupScope ps scope) (hd : A.handled = none) (e0 : Env0 P w K mg base A outer s H) (hl : vs.length = ps.length) (r : Vals vs us) {cl : Value} {cld : Option Addr} {csl : Array (Option Value)} (hcell : K.lookup cc = some ⟨cl, cld, .cell (some (.ref D)), csl⟩)
    (hns : h₀.Ns s.heap.objs.size (fun x => (ps.zip us).reverse.lookup x)) (hk : ∀ b o, s.heap.get? b = some o → h₀.get? b = some o) :
    Inv (cxS CX P w K mg base ps qual scope f cd cc A outer s H E) [] (L2.start ps vs) H { s with heap := h₀, toks := tk } := by
  have KX : K.In base := e0.mod.kin
  have cb := KX _ _ hcell
  have noA : ∀ b : Addr, b ∉ (cxS CX P w K mg base ps qual scope f cd cc A outer s H E).ex := fun b z => absurd (show b ∈ ([] : List Addr) from z) (by simp)
  have lk : ∀ {x : Str} {c : Addr}, List.lookup x [(("__class__" : Str), cc)] = some c → x = "__class__" ∧ c = cc := fun {x c} h => by
    by_cases e : x = "__class__"
    · subst e
      simp [List.lookup] at h
      exact ⟨rfl, h.symm⟩
    · have : (x == ("__class__" : Str)) = false := by simp [e]
      rw [List.lookup_cons, this] at h
      cases h
  refine ⟨⟨e0.mod, S.kind, rfl, rfl, Nat.le_refl _, fun y z c h1 h2 => ?_, fun y hy => ?_, fun y c h _ => (by cases h), fun _ => hd, Around.frames_deeper e0.frames, .inr ⟨rfl, rfl⟩, fun b z => absurd z (noA b), e0.bs, e0.bsz, fun b _ _ => noA b, fun b z => absurd z (noA b), e0.funs, e0.frf⟩,
    rfl, e0.bare, Un.kept hk, ⟨_, hns, fun i y v h1 h2 h3 => ?_⟩, fun y c h => ?_, e0.hok.fresh (Nat.le_refl _), fun y c h => ?_, fun p hp => absurd (show p ∈ ([] : List (Addr × Obj)) from hp) (by simp), e0.hok.kept hk, ?_⟩
  · exact (lk h1).1.trans (lk h2).1.symm
  · have hy : scope.names.lookup y = some .cell ∨ scope.names.lookup y = some .free := hy
    rcases hy with hy | hy
    · exact absurd rfl (S.nocell _ (PySem.mem_of_lookup hy))
    · rw [S.free y hy]
      exact ⟨cc, by show List.lookup _ [_] = _; simp [List.lookup]⟩
  · unfold L2.start at h2
    rw [hl, Nat.sub_self, List.replicate_zero, List.append_nil, List.getElem?_map] at h2
    obtain ⟨v', e1, e2⟩ : ∃ v', vs[i]? = some v' ∧ some v' = some v := by
      cases e : vs[i]? with
      | none => rw [e] at h2; cases h2
      | some a => rw [e] at h2; exact ⟨a, rfl, Option.some.inj h2⟩
    cases e2
    obtain ⟨u, hu, rv⟩ := r.get e1
    exact ⟨u, rv, .inl ⟨S.par y (List.mem_of_getElem? h1), bindL_rev (qual := qual) (L := 0) (f := 0) (cd := cd) S.nd h1 hu⟩⟩
  · obtain ⟨_, rfl⟩ := lk h
    exact ⟨_, ⟨_, hk _ _ (e0.bs _ _ cb).1, rfl⟩⟩
  · obtain ⟨_, rfl⟩ := lk h
    exact (e0.bs _ _ cb).2
  · unfold L2.start
    show _ = ps.length
    rw [List.length_append, List.length_map, List.length_replicate]
    omega
/-- what the written part says of such a def -/
structure SupFn (K : PySem.W.Frag) (P : Program) (name qual : Str) (params : Arguments) (body : List Stmt) (scope : Scope) (D cc f : Addr) (cd : Value) (fd : FuncData) : Prop where
  ex : ∃ (oc : Value) (od : Option Addr) (kV doc pm : Value) (an : Option Addr) (ct : Value) (osl : Array (Option Value)), fd = PySem.W.ksFn name qual params body scope .none kV doc pm an cd ct cc ∧ K.lookup f = some ⟨oc, od, .func fd, osl⟩ ∧ PySem.W.codeIn K cd qual = true
  kp : PySem.W.keepIn K (.ref f) = true
  cell : ∃ (cl : Value) (cld : Option Addr) (csl : Array (Option Value)), K.lookup cc = some ⟨cl, cld, .cell (some (.ref D)), csl⟩
  code : ∃ (cda : Addr) (ccl : Value) (cdd : Option Addr) (vs : Array Value) (ccs : Array (Option Value)) (file : Str) (tf : Tok), cd = .ref cda ∧ K.lookup cda = some ⟨ccl, cdd, .fields vs, ccs⟩ ∧ vs[2]? = some (.str file tf) ∧ ((P.main.file : Str) == file) = true
  top : (P.main.scope.names.lookup ("super" : Str)).isSome = false
  opq : PySem.W.nsIn K PySem.cStatics "thirdparty.any" = some none
  cls : ∃ cdD, PySem.W.clsIn K D = some cdD
theorem ok_super {k : Nat} {name self m : Str} {params : Arguments} {e : Expr} {es : List Expr} {p0 p1 pa pc pe : Pos} {fd fd2 : FuncData} {f2 C : Addr} {ps2 : List Str} {sp2 : Sp} {t : TA} {cd : Value}
    (F : SupFn K P name qual params [.Expr (.Call (.Attribute (.Call (.Name "super" p0) [] [] p1) m pa) (e :: es) [] pc) pe] scope D cc f cd fd) (S : SupScope ps scope) (hps : ps.head? = some self) (hpar : (params.posonlyargs ++ params.args).head?.map (·.arg) = some self)
    (hsup : mg "super" = none) (sub : PySem.W.mroIn K C (.ref D) = some true) (hcl : ∃ cdC, PySem.W.clsIn K C = some cdC) (hm : PySem.W.ks_superIn K C D m = some (some (.ref f2))) (ht : PySem.W.typeIn K (.ref f2) = some (.type "function")) (hfn : PySem.W.fnIn K f2 = true) (hmc : (m == ("__class__" : Str)) = false)
    (F2 : FnOk P w K mg base (L2.CX P w) k f2 fd2 ps2 sp2) (b2 : Binds K fd2 ps2 [])
    (ha : ∀ A outer s H E, PA (cxS (L2.CX P w) P w K mg base ps qual scope f cd cc A outer s H E) (e :: es) t)
    (hst : ∀ env, starEach (e :: es) env = (false, eval e env) :: starEach es env) (hpl : ∀ env, (backTo pc (starEach es env)).any (·.1) = false)
    (hsw : ∀ env, swapsWith (.Call (.Attribute (.Call (.Name "super" p0) [] [] p1) m pa) (e :: es) [] pc) none pe.line env = pure false)
    {pl : Env → Sem Bool} (hev : ∀ env, eval (.Call (.Attribute (.Call (.Name "super" p0) [] [] p1) m pa) (e :: es) [] pc) env = (do
      let ov ← attributeBase (.Call (.Name "super" p0) [] [] p1) m env (eval (.Call (.Name "super" p0) [] [] p1) env)
      standAt pa.atName
      let (f, first) ← holding [ov] (getMethod ov m (pl env))
      callWith pc f first (backTo pc (starEach (e :: es) env)) [])) :
    FnOk P w K mg base (L2.CX P w) (k + 1) f fd ps (fun vs H Q E => vs.length = ps.length ∧ ∃ (x dx : Addr) (fs : List (Str × V)) (rest : List V), vs = .ref x :: rest ∧ H x = some (.ins C dx fs) ∧ t (L2.start ps vs) H fun zs H' => sp2 (.ref x :: zs) H' (fun _ H'' => Q .non H'') E) := by
  refine ⟨fun _ _ _ _ h => h.1, fun A outer s H args us vs Q E hr e0 hb r hsp => ?_⟩
  obtain ⟨hl, x, dx, fs, rest, rfl, hx, hsp⟩ := hsp
  obtain ⟨oc, od, kV, doc, pm, an, ct, osl, rfl, lk, hcd⟩ := F.ex
  obtain ⟨cl, cld, csl, hcell⟩ := F.cell
  obtain ⟨cda, ccl, cdd, fv, ccs, file, tf, rfl, hcode, hvs, hfile⟩ := F.code
  obtain ⟨cdD, hD⟩ := F.cls
  have KX : K.In s.heap := e0.mod.kin.keeps fun b o e => (e0.bs b o e).1
  have lim : s.heap.NoLimit := e0.mod.nolimit.keeps fun b o e => (e0.bs b o e).1
  refine PySem.ks_codeAny_call_defAt (binds := ps.zip us) hr.depth (KX _ _ lk) rfl lim (PySem.W.codeRec_of KX hcd) rfl hb S.nocell (fun y hy => S.par y.1 (List.of_mem_zip (a := y.1) (b := y.2) hy).1) (fun h₀ hns hk => ?_) S.co S.gen S.kind
  have I := inv_sup (CX := L2.CX P w) (P := P) (w := w) (mg := mg) (qual := qual) (f := f) (cd := .ref cda) (A := A) (outer := outer) (E := E) (tk := s.toks + (ps.zip us).length) S hr.hd e0 hl r hcell hns hk
  obtain ⟨ar, har, hself⟩ : ∃ ar, (params.posonlyargs ++ params.args).head? = some ar ∧ ar.arg = self := by
    cases e1 : (params.posonlyargs ++ params.args).head? with
    | none => rw [e1] at hpar; cases hpar
    | some ar => rw [e1] at hpar; exact ⟨ar, rfl, Option.some.inj hpar⟩
  have K0 : K.In h₀ := KX.keeps hk
  obtain ⟨oD, hD1, hD2⟩ : ∃ oD, h₀.get? D = some oD ∧ oD.data = .cls cdD := by
    unfold PySem.W.clsIn at hD
    split at hD
    · rename_i c d cd' sl ho
      cases hD
      exact ⟨_, K0 _ _ ho, rfl⟩
    · cases hD
  refine PySem.ks_wpAt_execs_cons (PySem.ks_wpAt_Expr_any (PySem.ks_wpAt_MethodCall ?_ (hev _)) (hi := by show (scope.kind == .module && _) = false; rw [S.kind]; rfl) (hs := hsw _))
  refine PySem.ks_wpAt_super_base S.sup S.cls hmc rfl (K0 _ _ lk) rfl har rfl (K0 _ _ hcode) rfl hvs hfile F.top ?_
  obtain ⟨mb, hb1, hb2⟩ := I.mod.blt
  refine PySem.W.ks_loadName_global S.kind S.sup (Calls.loadGlobal_builtin (I.mod.glob.keeps I.bk) hsup (hb1.keeps I.bk) ((hb2 "super" (by decide)).trans PyProof.Rows.Boot.«super») ⟨rfl, ?_⟩)
  refine wpAny_loadName_free S.kind S.cls (c := cc) (by rfl) ⟨_, K0 _ _ hcell, rfl⟩ ?_
  obtain ⟨u0, us', rfl, r1, r2⟩ : ∃ u0 us', us = u0 :: us' ∧ RelV (.ref x) u0 ∧ Vals rest us' := by
    cases r with
    | cons r1 r2 => exact ⟨_, _, rfl, r1, r2⟩
  obtain rfl : u0 = .ref x := r1
  have hp0 : ps[0]? = some ar.arg := by
    rw [hself, ← hps]
    cases ps <;> rfl
  refine wpAny_loadName_local S.kind (S.par _ (List.mem_of_getElem? hp0)) hns (bindL_rev (qual := qual) (L := 0) (f := 0) (cd := .none) S.nd hp0 (by rfl)) ?_
  refine PySem.ks_wpAny_isType_cls hD1 hD2 ⟨rfl, ?_⟩
  obtain ⟨mA, J, _⟩ := ins_get I.hok hx
  obtain ⟨odx, J, _⟩ := J.look
  obtain ⟨cdC, hC⟩ := hcl
  refine PySem.ks_wpAny_call_super hD1 hD2 J.at_ J.cls (fun c e => ?_) (PySem.W.looks_mroIn K0 sub) (fun h1 ho1 k1 => ?_)
  · have := J.no
    unfold PySem.W.notCls at this
    rw [e] at this
    exact Bool.noConfusion this
  have I1 := I.kept (t' := s.toks + (ps.zip (Value.ref x :: us')).length) k1
  have K1 : K.In h1 := K0.keeps k1
  have J1 := (ins_get I1.hok hx)
  obtain ⟨of2, hof, hofc⟩ : ∃ of, h1.get? f2 = some of ∧ of.cls = .type "function" := by
    have ht' : (K.lookup f2).map (·.cls) = some (.type "function") := ht
    cases z : K.lookup f2 with
    | none => rw [z] at ht'; cases ht'
    | some of => rw [z] at ht'; exact ⟨of, K1 _ _ z, Option.some.inj ht'⟩
  have hm' : PySem.W.alongIn K m ((cdC.mro.dropWhile (· != .ref D)).drop 1) = some (some (.ref f2)) := by
    unfold PySem.W.ks_superIn at hm
    rw [hC] at hm
    exact hm
  refine PySem.ks_wpAny_getMethod_super ho1 (PySem.W.looks_opaque K1 F.opq) (l₀ := cdC.mro) ?_ rfl K1 hm' hof hofc (PySem.W.ks_ne K0 J hC) hmc ?_
  · exact fun A Q E s k q => wpAny_bind ((PySem.W.looks_clsIn K1 hC) A _ E s k (wpAny_pure q))
  have hf0 : H h1.objs.size = none := I1.hok.fresh (Nat.le_refl _)
  have hfp := I1.fpOk (Nat.le_refl _) hf0
  have hget : (h1.push (PySem.W.methodObj (.ref f2) (.ref x))).get? h1.objs.size = some (PySem.W.methodObj (.ref f2) (.ref x)) := Heap.get?_push_at rfl rfl
  have I2 := I1.kept (h' := h1.push (PySem.W.methodObj (.ref f2) (.ref x))) (t' := s.toks + (ps.zip (Value.ref x :: us')).length + 1) (fun b o e => Heap.get?_push_of_some _ e)
  have I3 : Inv (cxS (L2.CX P w) P w K mg base ps qual scope f (.ref cda) cc A outer s H E) [(h1.objs.size, PySem.W.methodObj (.ref f2) (.ref x))] _ H _ := I2.pins_of fun p hp => by
    rw [List.mem_singleton.mp hp]
    exact ⟨hget, hf0, hfp.2.1, hfp.2.2.1, fun v z => nomatch z⟩
  have hX : Passes (L2.CX P w) (cxS (L2.CX P w) P w K mg base ps qual scope f (.ref cda) cc A outer s H E) E := passes_call (takes_of rfl rfl rfl rfl) (fun _ _ _ _ h => h)
  have hnb : base.get? h1.objs.size = none := by
    cases z : base.get? h1.objs.size with
    | none => rfl
    | some o => exact absurd (Heap.lt_size (k1 _ _ (hk _ _ (e0.bs _ _ z).1))) (Nat.lt_irrefl _)
  refine PySem.W.callWith_M (K := K) (h₀ := base) (L := s.heap.objs.size) (news := [(h1.objs.size, PySem.W.methodObj (.ref f2) (.ref x))]) e0.mod.kin (fun p hp => by rw [List.mem_singleton.mp hp]; exact ⟨hget, hfp.2.1, hnb⟩) (List.mem_singleton.mpr rfl) hfn ?_ (hst _) (hpl _)
  refine thn ((ha A outer s H E).run pc _ _ _ H _ I3 hsp) fun us2 s2 ⟨zs, H2, I4, rz, q2⟩ => ?_
  have hq := (I4.pin _ (List.mem_append_right _ (List.mem_singleton.mpr rfl))).1
  refine ⟨⟨hq, I4.kIn⟩, ?_⟩
  have r3 : Vals (.ref x :: zs) (.ref x :: us2) := .cons rfl rz
  have hl2 : (Value.ref x :: us2).length = ps2.length := by rw [← r3.length]; exact F2.len _ _ _ _ q2
  refine wpAny_call (PySem.W.method_call hq (codeAny_mono (F2.run _ _ s2 H2 ⟨.ref x :: us2, []⟩ (.ref x :: us2) (.ref x :: zs) _ E (hr.deeper _) I4.env0 (by have := b2 s2 (.ref x :: us2) I4.kIn (by rw [List.append_nil]; exact hl2); rw [List.append_nil] at this; exact this) r3 q2) fun r s' hq' => ?_))
  cases r with
  | error e => exact hX _ _ H2 s2 e s' I4 hq'
  | ok fl =>
    cases fl with
    | ret u =>
      obtain ⟨v, H', J', rv, q3⟩ := I4.after hq'
      exact wpAt_of_wpAny (wpAny_pure ⟨.non, H', J'.os, J'.bare, J'.base, J'.hok, rfl, q3⟩)
    | next => exact False.elim hq'
    | brk => exact False.elim hq'
    | cont => exact False.elim hq'
end
end So

namespace K14
open PySem PySem.Spec PyProof.Rows L2 So
abbrev sChecked : Stmt := topS 28
abbrev checkedN : List Str := ["kind", "told", "value", "form"]
theorem scChecked : FnScope checkedN ["kind", "told"] (defScope sChecked) := ⟨rfl, rfl, rfl, by decide +kernel, rfl, by decide +kernel, by decide +kernel⟩
/-- zip of two tuples, walked -/
theorem walk_zipT {K : PySem.W.Frag} {a b : Addr} {xs ys : List V} {n : Nat} (hn : n = min xs.length ys.length) : Walk (RZ.ItzT K a b) n (fun H => SqT K H a xs ∧ SqT K H b ys) (YPair (fun i => xs[i]?) (fun i => ys[i]?)) := by
  subst hn
  refine ⟨fun i _ hi q => ?_, fun _ q => ⟨xs, ys, q.1, q.2, by omega⟩, fun i H v H' _ q y => ?_⟩
  · have h1 : i < xs.length := by omega
    have h2 : i < ys.length := by omega
    exact ⟨xs, ys, xs[i], ys[i], q.1, q.2, by simp [h1], by simp [h2]⟩
  · obtain ⟨T, x, z, h1, h2, h3, h4, h5⟩ := y
    exact ⟨T, x, z, h1, h2, h3, h4 xs q.1, h5 ys q.2⟩
/-- the forms of a kind's arguments -/
def formsOf (kind : Str) : List Str :=
  if kind = "begun" then ["name", "beginning"] else if kind = "setby" then ["name", "beginning", "name"] else if kind = "found" then ["name", "moment", "truth"] else if kind = "trusted" then ["name"]
  else if kind = "passed" ∨ kind = "failed" then ["name", "moment", "name"] else ["name", "moment", "name", "moment"]
def kinds : List Str := ["begun", "setby", "found", "trusted", "passed", "failed", "agreed", "differed", "served", "backed"]
def okF (form : Str) (v : V) : Bool := if form = "name" then gNam v else if form = "moment" then gMom v else if form = "beginning" then gBeg v else gTru v
/-- the first value that has not its form: the error's class, the field, the value -/
def badL (CN CM CS : Addr) : List (V × Str) → Option (Addr × Str × V)
  | [] => none
  | (v, f) :: r => if okF f v = true then badL CN CM CS r else some (if f = "name" then (CN, "name", v) else if f = "truth" then (CS, "value", v) else (CM, "moment", v))
theorem badL_at {CN CM CS : Addr} {v : V} {f : Str} : ∀ {l : List (V × Str)} {i : Nat}, badL CN CM CS (l.take i) = none → l[i]? = some (v, f) → (okF f v = true → badL CN CM CS (l.take (i + 1)) = none) ∧ (okF f v = false → badL CN CM CS l = some (if f = "name" then (CN, ("name" : Str), v) else if f = "truth" then (CS, ("value" : Str), v) else (CM, ("moment" : Str), v)))
  | [], _, _, e => by simp at e
  | p :: r, 0, _, e => by
    have e : p = (v, f) := by simpa using e
    subst e
    refine ⟨fun h => ?_, fun h => ?_⟩
    · show badL CN CM CS [(v, f)] = none
      unfold badL
      rw [if_pos h]
      rfl
    · unfold badL
      rw [if_neg (by rw [h]; exact Bool.false_ne_true)]
  | (v', f') :: r, i + 1, h, e => by
    have h : badL CN CM CS ((v', f') :: r.take i) = none := h
    unfold badL at h
    split at h
    · rename_i c
      obtain ⟨a, b⟩ := badL_at (l := r) (i := i) h (by simpa using e)
      refine ⟨fun z => ?_, fun z => ?_⟩
      · show badL CN CM CS ((v', f') :: r.take (i + 1)) = none
        unfold badL
        rw [if_pos c]
        exact a z
      · unfold badL
        rw [if_pos c]
        exact b z
    · cases h
theorem forms_in : ∀ kind ∈ kinds, ∀ f ∈ formsOf kind, f ∈ (["name", "moment", "beginning", "truth"] : List Str) := by decide +kernel
theorem form_of {CN CM CS : Addr} {f : Str} {v : V} (h : f ∈ (["name", "moment", "beginning", "truth"] : List Str)) : ∃ C fl, Form CN CM CS f v (okF f v) C fl ∧ (if f = "name" then (CN, ("name" : Str), v) else if f = "truth" then (CS, "value", v) else (CM, "moment", v)) = (C, fl, v) := by
  simp only [List.mem_cons, List.not_mem_nil, or_false] at h
  rcases h with h | h | h | h <;> subst h
  · exact ⟨CN, "name", .inl ⟨rfl, rfl, rfl, rfl⟩, rfl⟩
  · exact ⟨CM, "moment", .inr (.inl ⟨rfl, rfl, rfl, rfl⟩), rfl⟩
  · exact ⟨CM, "moment", .inr (.inr (.inl ⟨rfl, rfl, rfl, rfl⟩)), rfl⟩
  · exact ⟨CS, "value", .inr (.inr (.inr ⟨rfl, rfl, rfl, rfl⟩)), rfl⟩
section
variable {P : Program} {w : World} {K : PySem.W.Frag} {mg : Str → Option Value} {base : Heap}
/-- what the top says of the table of forms, at aF -/
structure Forms (K : PySem.W.Frag) (w : World) (mg : Str → Option Value) (aF : Addr) : Prop where
  mgF : mg "FORMS" = some (.ref aF)
  tab : ∀ kind ∈ kinds, ∃ ft, KDct K w aF kind (.ref ft) ∧ ∀ H, SqT K H ft ((formsOf kind).map V.str)
  zip : mg "zip" = none
/-- both ways out of what looks at these values -/
def WaysL (CN CM CS : Addr) (l : List (V × Str)) (H : Hp) (E : XK) (q : Prop) : Prop :=
  (badL CN CM CS l = none → q) ∧ ∀ C fl v, badL CN CM CS l = some (C, fl, v) → ∀ d H', Same H H' → H' d = some (.xd [(fl, v)]) → E (.ref C) (some d) H'
def spChecked (CN CM CS : Addr) : Sp := fun vs H Q E => ∃ (kind : Str) (tt : Addr) (xs : List V), vs = [.str kind, .ref tt] ∧ kind ∈ kinds ∧ H tt = some (.tup xs) ∧ xs.length = (formsOf kind).length ∧ (∀ x ∈ xs, ∃ T, Gv H x T) ∧
  WaysL CN CM CS (xs.zip (formsOf kind)) H E (∀ H', Same H H' → Q (.ref tt) H')
theorem ok_checked {CN CM CS f fC aF : Addr} {fd fdC : FuncData} (F : Fun K "checked" "checked" sChecked f fd) (T : Forms K w mg aF) (FC : Fun K "check_form" "check_form" sCheck fC fdC) (bC : Binds K fdC ["value", "form"] []) (gC : mg "check_form" = some (.ref fC))
    (GC : FnOk P w K mg base (L2.CX P w) 3 fC fdC ["value", "form"] (spCheck CN CM CS)) : FnOk P w K mg base (L2.CX P w) 4 f fd ["kind", "told"] (spChecked CN CM CS) := by
  refine F.okX scChecked (fun vs H Q E h => ?_) (fun cdv A outer s H vs Q E hr h => ?_)
  · obtain ⟨_, _, _, rfl, _⟩ := h
    rfl
  · obtain ⟨kind, tt, xs, rfl, hk, ht, hl, hg, qy, qn⟩ := h
    obtain ⟨ft, hd, hft⟩ := T.tab kind hk
    have hfo := forms_in kind hk
    refine ⟨_, pss_cons (ps_for PassesOwn.leaving rfl (RZ.pi_zipA (by rfl) T.zip (pa_cons (pv 1) (pa_cons (pe_ix ix_kdict (pe_glob (v := .ref aF) rfl T.mgF rfl) (pv 0) (fun _ _ => rfl)) pa_nil))) (pg_tup rfl (pgs_cons (pg_name (i := 2) scChecked.nd rfl (Or.inl rfl)) (pgs_cons (pg_name (i := 3) scChecked.nd rfl (Or.inl rfl)) pgs_nil)))
        (pss_one (ps_expr (pe_call GC hr (by rfl) gC FC.kp bC .nil (passes_call (takes_of rfl rfl rfl rfl) (fun _ _ _ _ h => h)) (pa_cons (pv 2) (pa_cons (pv 3) pa_nil))))))
      (pss_one (ps_ret (pv 1))), ?_⟩
    generalize formsOf kind = fo at hl hft hfo qy qn
    refine ⟨_, rfl, _, rfl, aF, kind, .ref ft, rfl, rfl, hd, tt, ft, xs, fo.map V.str, rfl, .inr ⟨SqT.of ht, hft _, ?_⟩⟩
    refine for_it (walk_zipT rfl) (fun i σ H' => (∃ x2 x3, σ = [some (.str kind), some (.ref tt), x2, x3]) ∧ Same H H' ∧ badL CN CM CS ((xs.zip fo).take i) = none) ⟨⟨none, none, rfl⟩, Same.refl _, rfl⟩ (fun _ _ _ _ y => ⟨SqT.of (y.2.1 _ _ ht), hft _⟩) ?_ ?_
    · rintro i x σ H2 H3 hi ⟨⟨x2, x3, rfl⟩, s2, hb⟩ ⟨T0, u, y, rfl, hT0, rfl, hu, hy⟩
      have s3 := s2.trans (same_upd0 (o := .tup [u, y]) hT0)
      replace hy : (fo.map V.str)[i]? = some y := hy
      rw [List.getElem?_map] at hy
      obtain ⟨fm, hfm, rfl⟩ : ∃ fm, fo[i]? = some fm ∧ y = .str fm := by
        cases e : fo[i]? with
        | none => rw [e] at hy; cases hy
        | some m => rw [e] at hy; exact ⟨m, rfl, (Option.some.inj hy).symm⟩
      replace hu : xs[i]? = some u := hu
      obtain ⟨Tu, hgu⟩ := hg u (List.mem_of_getElem? hu)
      have hz : (xs.zip fo)[i]? = some (u, fm) := by
        rw [List.getElem?_zip_eq_some]
        exact ⟨hu, hfm⟩
      obtain ⟨C, fl, hF, he⟩ := form_of (CN := CN) (CM := CM) (CS := CS) (v := u) (hfo fm (List.mem_of_getElem? hfm))
      obtain ⟨b1, b2⟩ := badL_at hb hz
      refine ⟨T0, _, rfl, SqT.of upd_same, rfl, _, _, rfl, _, _, rfl, rfl, ?_⟩
      refine ⟨_, rfl, _, rfl, u, Tu, fm, _, C, fl, rfl, hgu.same s3, hF, fun g H4 s4 => ⟨⟨_, _, rfl⟩, s3.trans s4, b1 g⟩, fun g d H4 s4 e => ?_⟩
      exact qn C fl u (by rw [b2 g, he]) d H4 (s3.trans s4) e
    · rintro σ H2 ⟨⟨x2, x3, rfl⟩, s2, hb⟩
      refine ⟨_, rfl, qy ?_ H2 s2⟩
      rw [List.take_of_length_le (by rw [List.length_zip, List.length_map]; exact Nat.le_refl _)] at hb
      exact hb
end
end K14

namespace K14
open PySem PySem.Spec PyProof.Rows L2 So
theorem lenC {n : Str} {v : V} {fs : List (Str × V)} {k : Nat} (h : fs.length ≤ k) : (putF n v fs).length ≤ k + 1 := Nat.le_trans (length_putF _ _ _) (Nat.succ_le_succ h)
section
variable {P : Program} {w : World} {K : PySem.W.Frag} {mg : Str → Option Value} {base : Heap}
/-- what the top says of a row's class -/
structure RowC (K : PySem.W.Frag) (C : Addr) (l : List Str) : Prop where
  cl : Cls K C
  no : ∀ n ∈ l, NoAttr K C n
/-- the names of a row's arguments -/
def attrsOf (kind : Str) : List Str := if kind = "begun" then ["tool", "moment"] else if kind = "found" then ["tool", "moment", "is_sound"] else if kind = "trusted" then ["tool"] else if kind = "setby" ∨ kind = "passed" ∨ kind = "failed" then ["tool", "moment", "by"] else ["one", "moment", "other", "later"]
/-- the methods of rows are no fields -/
abbrev methR : List Str := ["renamed", "pairs", "_excluded", "_told_as", "tools", "moments", "begins", "read"]
def NoM (fs : List (Str × V)) : Prop := ∀ m ∈ methR, fs.lookup m = none
theorem NoM.nil : NoM [] := fun _ _ => rfl
theorem NoM.put {fs : List (Str × V)} {n : Str} {v : V} (h : NoM fs) (hn : n ∉ methR) : NoM (putF n v fs) := fun m hm => by
  rw [lookup_putF, if_neg (fun z : m = n => hn (by rw [← z]; exact hm))]
  exact h m hm
/-- what a row keeps -/
def Told (kind : Str) (xs : List V) (H : Hp) (fs : List (Str × V)) : Prop := fs.lookup ("kind" : Str) = some (V.str kind) ∧ (∃ tp, fs.lookup ("_told" : Str) = some (.ref tp) ∧ H tp = some (.tup xs)) ∧ (∀ q ∈ (attrsOf kind).zip xs, fs.lookup q.1 = some q.2) ∧ NoM fs
theorem attrs_begun : attrsOf "begun" = (["tool", "moment"] : List Str) := by decide +kernel
theorem attrs_setby : attrsOf "setby" = (["tool", "moment", "by"] : List Str) := by decide +kernel
theorem attrs_found : attrsOf "found" = (["tool", "moment", "is_sound"] : List Str) := by decide +kernel
theorem attrs_trusted : attrsOf "trusted" = (["tool"] : List Str) := by decide +kernel
theorem attrs_passed : attrsOf "passed" = (["tool", "moment", "by"] : List Str) := by decide +kernel
theorem attrs_failed : attrsOf "failed" = (["tool", "moment", "by"] : List Str) := by decide +kernel
theorem attrs_meet : ∀ kind ∈ (["agreed", "differed", "served", "backed"] : List Str), attrsOf kind = (["one", "moment", "other", "later"] : List Str) := by decide +kernel
def spRow (CN CM CS C : Addr) (kind : Str) : Sp := fun vs H Q E => ∃ (x dx : Addr) (xs : List V), vs = .ref x :: xs ∧ H x = some (.ins C dx []) ∧ xs.length = (formsOf kind).length ∧ (∀ y ∈ xs, ∃ T, Gv H y T) ∧
  WaysL CN CM CS (xs.zip (formsOf kind)) H E (∀ H' fs, Off x H H' → H' x = some (.ins C dx fs) → Told kind xs H' fs → Q .non H')
abbrev sBegun : Stmt := inClass (topS 33) 0
theorem scBegun : FnScope ["self", "tool", "moment"] ["self", "tool", "moment"] (defScope sBegun) := ⟨rfl, rfl, rfl, by decide +kernel, rfl, by decide +kernel, by decide +kernel⟩
theorem ok_Begun {CN CM CS C f fK : Addr} {fd fdK : FuncData} (F : Fun K "__init__" "Begun.__init__" sBegun f fd) (T : RowC K C ["_told", "kind", "tool", "moment"]) (FK : Fun K "checked" "checked" sChecked fK fdK) (bK : Binds K fdK ["kind", "told"] []) (gK : mg "checked" = some (.ref fK))
    (GK : FnOk P w K mg base (L2.CX P w) 4 fK fdK ["kind", "told"] (spChecked CN CM CS)) : FnOk P w K mg base (L2.CX P w) 5 f fd ["self", "tool", "moment"] (spRow CN CM CS C "begun") := by
  refine F.okX scBegun (fun vs H Q E h => ?_) (fun cdv A outer s H vs Q E hr h => ?_)
  · obtain ⟨x, dx, xs, rfl, _, hl, _⟩ := h
    show xs.length + 1 = 3
    have : (formsOf "begun").length = 2 := by decide +kernel
    omega
  · obtain ⟨x, dx, xs, rfl, hx, hl, hg, qy, qn⟩ := h
    have hkin : ("begun" : Str) ∈ kinds := by decide +kernel
    have hl4 : (formsOf "begun").length = 2 := by decide +kernel
    obtain ⟨v0, v1, rfl⟩ : ∃ v0 v1, xs = [v0, v1] := by
      rw [hl4] at hl
      match xs, hl with
      | [v0, v1], _ => exact ⟨_, _, rfl⟩
    have no := T.no
    simp only [List.forall_mem_cons] at no
    obtain ⟨n0, n1, n2, n3, _⟩ := no
    refine ⟨_, pss_cons (ps_fld (pv 0) (pe_call GK hr (by rfl) gK FK.kp bK .nil (passes_call (takes_of rfl rfl rfl rfl) (fun _ _ _ _ h => h)) (pa_cons pe_str (pa_cons (pe_tup (pa_cons (pv 1) (pa_cons (pv 2) pa_nil))) pa_nil))) rfl)
      (pss_cons (ps_fld (pv 0) pe_str rfl)
      (pss_cons (ps_fld (pv 0) (pv 1) rfl) (pss_one (ps_fld (pv 0) (pv 2) rfl)))), ?_⟩
    refine ⟨_, rfl, _, rfl, by show 2 ≤ sizeLine; decide, fun tp htp => ?_⟩
    have s1 := same_upd0 (o := .tup [v0, v1]) htp
    refine ⟨"begun", tp, [v0, v1], rfl, hkin, upd_same, hl, (fun y hy => (hg y hy).elim fun T h => ⟨T, h.same s1⟩), fun gd H2 s2 => ?_, fun C' fl v g d H' s e => qn C' fl v g d H' (s1.trans s) e⟩
    have hx2 := s2 _ _ (s1 _ _ hx)
    have s12 := s1.trans s2
    refine ⟨_, rfl, x, C, dx, [], rfl, hx2, T.cl, n0, by show 0 < 1000; decide, ?_⟩
    refine ⟨_, rfl, x, C, dx, _, rfl, upd_same, T.cl, n1, Nat.lt_of_le_of_lt (lenC (Nat.le_refl 0)) (by decide), ?_⟩
    refine ⟨_, rfl, _, rfl, x, C, dx, _, rfl, upd_same, T.cl, n2, Nat.lt_of_le_of_lt (lenC (lenC (Nat.le_refl 0))) (by decide), ?_⟩
    refine ⟨_, rfl, _, rfl, x, C, dx, _, rfl, upd_same, T.cl, n3, Nat.lt_of_le_of_lt (lenC (lenC (lenC (Nat.le_refl 0)))) (by decide), ?_⟩
    refine qy gd _ _ (fun c o nc e => ?_) upd_same ?_
    · rw [upd_ne nc, upd_ne nc, upd_ne nc, upd_ne nc]
      exact s12 c o e
    · have ntp : tp ≠ x := fun z => by rw [z, hx] at htp; cases htp
      have etp := s2 _ _ (show (upd H tp (.tup _)) tp = _ from upd_same)
      refine ⟨?_, ⟨tp, ?_, ?_⟩, ?_, (by repeat (first | exact NoM.nil | refine NoM.put ?_ (by decide +kernel)))⟩
      · simp only [lookup_putF, show ¬ (("kind" : Str) = "_told") by decide +kernel, show ¬ (("kind" : Str) = "tool") by decide +kernel, show ¬ (("kind" : Str) = "moment") by decide +kernel, show ¬ (("kind" : Str) = "by") by decide +kernel, show ¬ (("kind" : Str) = "is_sound") by decide +kernel, show ¬ (("kind" : Str) = "one") by decide +kernel, show ¬ (("kind" : Str) = "other") by decide +kernel, show ¬ (("kind" : Str) = "later") by decide +kernel, show ¬ (("_told" : Str) = "kind") by decide +kernel, show ¬ (("_told" : Str) = "tool") by decide +kernel, show ¬ (("_told" : Str) = "moment") by decide +kernel, show ¬ (("_told" : Str) = "by") by decide +kernel, show ¬ (("_told" : Str) = "is_sound") by decide +kernel, show ¬ (("_told" : Str) = "one") by decide +kernel, show ¬ (("_told" : Str) = "other") by decide +kernel, show ¬ (("_told" : Str) = "later") by decide +kernel, show ¬ (("tool" : Str) = "kind") by decide +kernel, show ¬ (("tool" : Str) = "_told") by decide +kernel, show ¬ (("tool" : Str) = "moment") by decide +kernel, show ¬ (("tool" : Str) = "by") by decide +kernel, show ¬ (("tool" : Str) = "is_sound") by decide +kernel, show ¬ (("tool" : Str) = "one") by decide +kernel, show ¬ (("tool" : Str) = "other") by decide +kernel, show ¬ (("tool" : Str) = "later") by decide +kernel, show ¬ (("moment" : Str) = "kind") by decide +kernel, show ¬ (("moment" : Str) = "_told") by decide +kernel, show ¬ (("moment" : Str) = "tool") by decide +kernel, show ¬ (("moment" : Str) = "by") by decide +kernel, show ¬ (("moment" : Str) = "is_sound") by decide +kernel, show ¬ (("moment" : Str) = "one") by decide +kernel, show ¬ (("moment" : Str) = "other") by decide +kernel, show ¬ (("moment" : Str) = "later") by decide +kernel, show ¬ (("by" : Str) = "kind") by decide +kernel, show ¬ (("by" : Str) = "_told") by decide +kernel, show ¬ (("by" : Str) = "tool") by decide +kernel, show ¬ (("by" : Str) = "moment") by decide +kernel, show ¬ (("by" : Str) = "is_sound") by decide +kernel, show ¬ (("by" : Str) = "one") by decide +kernel, show ¬ (("by" : Str) = "other") by decide +kernel, show ¬ (("by" : Str) = "later") by decide +kernel, show ¬ (("is_sound" : Str) = "kind") by decide +kernel, show ¬ (("is_sound" : Str) = "_told") by decide +kernel, show ¬ (("is_sound" : Str) = "tool") by decide +kernel, show ¬ (("is_sound" : Str) = "moment") by decide +kernel, show ¬ (("is_sound" : Str) = "by") by decide +kernel, show ¬ (("is_sound" : Str) = "one") by decide +kernel, show ¬ (("is_sound" : Str) = "other") by decide +kernel, show ¬ (("is_sound" : Str) = "later") by decide +kernel, show ¬ (("one" : Str) = "kind") by decide +kernel, show ¬ (("one" : Str) = "_told") by decide +kernel, show ¬ (("one" : Str) = "tool") by decide +kernel, show ¬ (("one" : Str) = "moment") by decide +kernel, show ¬ (("one" : Str) = "by") by decide +kernel, show ¬ (("one" : Str) = "is_sound") by decide +kernel, show ¬ (("one" : Str) = "other") by decide +kernel, show ¬ (("one" : Str) = "later") by decide +kernel, show ¬ (("other" : Str) = "kind") by decide +kernel, show ¬ (("other" : Str) = "_told") by decide +kernel, show ¬ (("other" : Str) = "tool") by decide +kernel, show ¬ (("other" : Str) = "moment") by decide +kernel, show ¬ (("other" : Str) = "by") by decide +kernel, show ¬ (("other" : Str) = "is_sound") by decide +kernel, show ¬ (("other" : Str) = "one") by decide +kernel, show ¬ (("other" : Str) = "later") by decide +kernel, show ¬ (("later" : Str) = "kind") by decide +kernel, show ¬ (("later" : Str) = "_told") by decide +kernel, show ¬ (("later" : Str) = "tool") by decide +kernel, show ¬ (("later" : Str) = "moment") by decide +kernel, show ¬ (("later" : Str) = "by") by decide +kernel, show ¬ (("later" : Str) = "is_sound") by decide +kernel, show ¬ (("later" : Str) = "one") by decide +kernel, show ¬ (("later" : Str) = "other") by decide +kernel, if_true, if_false]
      · simp only [lookup_putF, show ¬ (("kind" : Str) = "_told") by decide +kernel, show ¬ (("kind" : Str) = "tool") by decide +kernel, show ¬ (("kind" : Str) = "moment") by decide +kernel, show ¬ (("kind" : Str) = "by") by decide +kernel, show ¬ (("kind" : Str) = "is_sound") by decide +kernel, show ¬ (("kind" : Str) = "one") by decide +kernel, show ¬ (("kind" : Str) = "other") by decide +kernel, show ¬ (("kind" : Str) = "later") by decide +kernel, show ¬ (("_told" : Str) = "kind") by decide +kernel, show ¬ (("_told" : Str) = "tool") by decide +kernel, show ¬ (("_told" : Str) = "moment") by decide +kernel, show ¬ (("_told" : Str) = "by") by decide +kernel, show ¬ (("_told" : Str) = "is_sound") by decide +kernel, show ¬ (("_told" : Str) = "one") by decide +kernel, show ¬ (("_told" : Str) = "other") by decide +kernel, show ¬ (("_told" : Str) = "later") by decide +kernel, show ¬ (("tool" : Str) = "kind") by decide +kernel, show ¬ (("tool" : Str) = "_told") by decide +kernel, show ¬ (("tool" : Str) = "moment") by decide +kernel, show ¬ (("tool" : Str) = "by") by decide +kernel, show ¬ (("tool" : Str) = "is_sound") by decide +kernel, show ¬ (("tool" : Str) = "one") by decide +kernel, show ¬ (("tool" : Str) = "other") by decide +kernel, show ¬ (("tool" : Str) = "later") by decide +kernel, show ¬ (("moment" : Str) = "kind") by decide +kernel, show ¬ (("moment" : Str) = "_told") by decide +kernel, show ¬ (("moment" : Str) = "tool") by decide +kernel, show ¬ (("moment" : Str) = "by") by decide +kernel, show ¬ (("moment" : Str) = "is_sound") by decide +kernel, show ¬ (("moment" : Str) = "one") by decide +kernel, show ¬ (("moment" : Str) = "other") by decide +kernel, show ¬ (("moment" : Str) = "later") by decide +kernel, show ¬ (("by" : Str) = "kind") by decide +kernel, show ¬ (("by" : Str) = "_told") by decide +kernel, show ¬ (("by" : Str) = "tool") by decide +kernel, show ¬ (("by" : Str) = "moment") by decide +kernel, show ¬ (("by" : Str) = "is_sound") by decide +kernel, show ¬ (("by" : Str) = "one") by decide +kernel, show ¬ (("by" : Str) = "other") by decide +kernel, show ¬ (("by" : Str) = "later") by decide +kernel, show ¬ (("is_sound" : Str) = "kind") by decide +kernel, show ¬ (("is_sound" : Str) = "_told") by decide +kernel, show ¬ (("is_sound" : Str) = "tool") by decide +kernel, show ¬ (("is_sound" : Str) = "moment") by decide +kernel, show ¬ (("is_sound" : Str) = "by") by decide +kernel, show ¬ (("is_sound" : Str) = "one") by decide +kernel, show ¬ (("is_sound" : Str) = "other") by decide +kernel, show ¬ (("is_sound" : Str) = "later") by decide +kernel, show ¬ (("one" : Str) = "kind") by decide +kernel, show ¬ (("one" : Str) = "_told") by decide +kernel, show ¬ (("one" : Str) = "tool") by decide +kernel, show ¬ (("one" : Str) = "moment") by decide +kernel, show ¬ (("one" : Str) = "by") by decide +kernel, show ¬ (("one" : Str) = "is_sound") by decide +kernel, show ¬ (("one" : Str) = "other") by decide +kernel, show ¬ (("one" : Str) = "later") by decide +kernel, show ¬ (("other" : Str) = "kind") by decide +kernel, show ¬ (("other" : Str) = "_told") by decide +kernel, show ¬ (("other" : Str) = "tool") by decide +kernel, show ¬ (("other" : Str) = "moment") by decide +kernel, show ¬ (("other" : Str) = "by") by decide +kernel, show ¬ (("other" : Str) = "is_sound") by decide +kernel, show ¬ (("other" : Str) = "one") by decide +kernel, show ¬ (("other" : Str) = "later") by decide +kernel, show ¬ (("later" : Str) = "kind") by decide +kernel, show ¬ (("later" : Str) = "_told") by decide +kernel, show ¬ (("later" : Str) = "tool") by decide +kernel, show ¬ (("later" : Str) = "moment") by decide +kernel, show ¬ (("later" : Str) = "by") by decide +kernel, show ¬ (("later" : Str) = "is_sound") by decide +kernel, show ¬ (("later" : Str) = "one") by decide +kernel, show ¬ (("later" : Str) = "other") by decide +kernel, if_true, if_false]
      · repeat rw [upd_ne ntp]
        exact etp
      · rw [attrs_begun]
        simp only [List.zip_cons_cons, List.zip_nil_right, List.forall_mem_cons]
        refine ⟨(by simp only [lookup_putF, show ¬ (("kind" : Str) = "_told") by decide +kernel, show ¬ (("kind" : Str) = "tool") by decide +kernel, show ¬ (("kind" : Str) = "moment") by decide +kernel, show ¬ (("kind" : Str) = "by") by decide +kernel, show ¬ (("kind" : Str) = "is_sound") by decide +kernel, show ¬ (("kind" : Str) = "one") by decide +kernel, show ¬ (("kind" : Str) = "other") by decide +kernel, show ¬ (("kind" : Str) = "later") by decide +kernel, show ¬ (("_told" : Str) = "kind") by decide +kernel, show ¬ (("_told" : Str) = "tool") by decide +kernel, show ¬ (("_told" : Str) = "moment") by decide +kernel, show ¬ (("_told" : Str) = "by") by decide +kernel, show ¬ (("_told" : Str) = "is_sound") by decide +kernel, show ¬ (("_told" : Str) = "one") by decide +kernel, show ¬ (("_told" : Str) = "other") by decide +kernel, show ¬ (("_told" : Str) = "later") by decide +kernel, show ¬ (("tool" : Str) = "kind") by decide +kernel, show ¬ (("tool" : Str) = "_told") by decide +kernel, show ¬ (("tool" : Str) = "moment") by decide +kernel, show ¬ (("tool" : Str) = "by") by decide +kernel, show ¬ (("tool" : Str) = "is_sound") by decide +kernel, show ¬ (("tool" : Str) = "one") by decide +kernel, show ¬ (("tool" : Str) = "other") by decide +kernel, show ¬ (("tool" : Str) = "later") by decide +kernel, show ¬ (("moment" : Str) = "kind") by decide +kernel, show ¬ (("moment" : Str) = "_told") by decide +kernel, show ¬ (("moment" : Str) = "tool") by decide +kernel, show ¬ (("moment" : Str) = "by") by decide +kernel, show ¬ (("moment" : Str) = "is_sound") by decide +kernel, show ¬ (("moment" : Str) = "one") by decide +kernel, show ¬ (("moment" : Str) = "other") by decide +kernel, show ¬ (("moment" : Str) = "later") by decide +kernel, show ¬ (("by" : Str) = "kind") by decide +kernel, show ¬ (("by" : Str) = "_told") by decide +kernel, show ¬ (("by" : Str) = "tool") by decide +kernel, show ¬ (("by" : Str) = "moment") by decide +kernel, show ¬ (("by" : Str) = "is_sound") by decide +kernel, show ¬ (("by" : Str) = "one") by decide +kernel, show ¬ (("by" : Str) = "other") by decide +kernel, show ¬ (("by" : Str) = "later") by decide +kernel, show ¬ (("is_sound" : Str) = "kind") by decide +kernel, show ¬ (("is_sound" : Str) = "_told") by decide +kernel, show ¬ (("is_sound" : Str) = "tool") by decide +kernel, show ¬ (("is_sound" : Str) = "moment") by decide +kernel, show ¬ (("is_sound" : Str) = "by") by decide +kernel, show ¬ (("is_sound" : Str) = "one") by decide +kernel, show ¬ (("is_sound" : Str) = "other") by decide +kernel, show ¬ (("is_sound" : Str) = "later") by decide +kernel, show ¬ (("one" : Str) = "kind") by decide +kernel, show ¬ (("one" : Str) = "_told") by decide +kernel, show ¬ (("one" : Str) = "tool") by decide +kernel, show ¬ (("one" : Str) = "moment") by decide +kernel, show ¬ (("one" : Str) = "by") by decide +kernel, show ¬ (("one" : Str) = "is_sound") by decide +kernel, show ¬ (("one" : Str) = "other") by decide +kernel, show ¬ (("one" : Str) = "later") by decide +kernel, show ¬ (("other" : Str) = "kind") by decide +kernel, show ¬ (("other" : Str) = "_told") by decide +kernel, show ¬ (("other" : Str) = "tool") by decide +kernel, show ¬ (("other" : Str) = "moment") by decide +kernel, show ¬ (("other" : Str) = "by") by decide +kernel, show ¬ (("other" : Str) = "is_sound") by decide +kernel, show ¬ (("other" : Str) = "one") by decide +kernel, show ¬ (("other" : Str) = "later") by decide +kernel, show ¬ (("later" : Str) = "kind") by decide +kernel, show ¬ (("later" : Str) = "_told") by decide +kernel, show ¬ (("later" : Str) = "tool") by decide +kernel, show ¬ (("later" : Str) = "moment") by decide +kernel, show ¬ (("later" : Str) = "by") by decide +kernel, show ¬ (("later" : Str) = "is_sound") by decide +kernel, show ¬ (("later" : Str) = "one") by decide +kernel, show ¬ (("later" : Str) = "other") by decide +kernel, if_true, if_false]), (by simp only [lookup_putF, show ¬ (("kind" : Str) = "_told") by decide +kernel, show ¬ (("kind" : Str) = "tool") by decide +kernel, show ¬ (("kind" : Str) = "moment") by decide +kernel, show ¬ (("kind" : Str) = "by") by decide +kernel, show ¬ (("kind" : Str) = "is_sound") by decide +kernel, show ¬ (("kind" : Str) = "one") by decide +kernel, show ¬ (("kind" : Str) = "other") by decide +kernel, show ¬ (("kind" : Str) = "later") by decide +kernel, show ¬ (("_told" : Str) = "kind") by decide +kernel, show ¬ (("_told" : Str) = "tool") by decide +kernel, show ¬ (("_told" : Str) = "moment") by decide +kernel, show ¬ (("_told" : Str) = "by") by decide +kernel, show ¬ (("_told" : Str) = "is_sound") by decide +kernel, show ¬ (("_told" : Str) = "one") by decide +kernel, show ¬ (("_told" : Str) = "other") by decide +kernel, show ¬ (("_told" : Str) = "later") by decide +kernel, show ¬ (("tool" : Str) = "kind") by decide +kernel, show ¬ (("tool" : Str) = "_told") by decide +kernel, show ¬ (("tool" : Str) = "moment") by decide +kernel, show ¬ (("tool" : Str) = "by") by decide +kernel, show ¬ (("tool" : Str) = "is_sound") by decide +kernel, show ¬ (("tool" : Str) = "one") by decide +kernel, show ¬ (("tool" : Str) = "other") by decide +kernel, show ¬ (("tool" : Str) = "later") by decide +kernel, show ¬ (("moment" : Str) = "kind") by decide +kernel, show ¬ (("moment" : Str) = "_told") by decide +kernel, show ¬ (("moment" : Str) = "tool") by decide +kernel, show ¬ (("moment" : Str) = "by") by decide +kernel, show ¬ (("moment" : Str) = "is_sound") by decide +kernel, show ¬ (("moment" : Str) = "one") by decide +kernel, show ¬ (("moment" : Str) = "other") by decide +kernel, show ¬ (("moment" : Str) = "later") by decide +kernel, show ¬ (("by" : Str) = "kind") by decide +kernel, show ¬ (("by" : Str) = "_told") by decide +kernel, show ¬ (("by" : Str) = "tool") by decide +kernel, show ¬ (("by" : Str) = "moment") by decide +kernel, show ¬ (("by" : Str) = "is_sound") by decide +kernel, show ¬ (("by" : Str) = "one") by decide +kernel, show ¬ (("by" : Str) = "other") by decide +kernel, show ¬ (("by" : Str) = "later") by decide +kernel, show ¬ (("is_sound" : Str) = "kind") by decide +kernel, show ¬ (("is_sound" : Str) = "_told") by decide +kernel, show ¬ (("is_sound" : Str) = "tool") by decide +kernel, show ¬ (("is_sound" : Str) = "moment") by decide +kernel, show ¬ (("is_sound" : Str) = "by") by decide +kernel, show ¬ (("is_sound" : Str) = "one") by decide +kernel, show ¬ (("is_sound" : Str) = "other") by decide +kernel, show ¬ (("is_sound" : Str) = "later") by decide +kernel, show ¬ (("one" : Str) = "kind") by decide +kernel, show ¬ (("one" : Str) = "_told") by decide +kernel, show ¬ (("one" : Str) = "tool") by decide +kernel, show ¬ (("one" : Str) = "moment") by decide +kernel, show ¬ (("one" : Str) = "by") by decide +kernel, show ¬ (("one" : Str) = "is_sound") by decide +kernel, show ¬ (("one" : Str) = "other") by decide +kernel, show ¬ (("one" : Str) = "later") by decide +kernel, show ¬ (("other" : Str) = "kind") by decide +kernel, show ¬ (("other" : Str) = "_told") by decide +kernel, show ¬ (("other" : Str) = "tool") by decide +kernel, show ¬ (("other" : Str) = "moment") by decide +kernel, show ¬ (("other" : Str) = "by") by decide +kernel, show ¬ (("other" : Str) = "is_sound") by decide +kernel, show ¬ (("other" : Str) = "one") by decide +kernel, show ¬ (("other" : Str) = "later") by decide +kernel, show ¬ (("later" : Str) = "kind") by decide +kernel, show ¬ (("later" : Str) = "_told") by decide +kernel, show ¬ (("later" : Str) = "tool") by decide +kernel, show ¬ (("later" : Str) = "moment") by decide +kernel, show ¬ (("later" : Str) = "by") by decide +kernel, show ¬ (("later" : Str) = "is_sound") by decide +kernel, show ¬ (("later" : Str) = "one") by decide +kernel, show ¬ (("later" : Str) = "other") by decide +kernel, if_true, if_false]), fun _ h => nomatch h⟩
abbrev sSetBy : Stmt := inClass (topS 34) 0
theorem scSetBy : FnScope ["self", "tool", "moment", "by"] ["self", "tool", "moment", "by"] (defScope sSetBy) := ⟨rfl, rfl, rfl, by decide +kernel, rfl, by decide +kernel, by decide +kernel⟩
theorem ok_SetBy {CN CM CS C f fK : Addr} {fd fdK : FuncData} (F : Fun K "__init__" "SetBy.__init__" sSetBy f fd) (T : RowC K C ["_told", "kind", "tool", "moment", "by"]) (FK : Fun K "checked" "checked" sChecked fK fdK) (bK : Binds K fdK ["kind", "told"] []) (gK : mg "checked" = some (.ref fK))
    (GK : FnOk P w K mg base (L2.CX P w) 4 fK fdK ["kind", "told"] (spChecked CN CM CS)) : FnOk P w K mg base (L2.CX P w) 5 f fd ["self", "tool", "moment", "by"] (spRow CN CM CS C "setby") := by
  refine F.okX scSetBy (fun vs H Q E h => ?_) (fun cdv A outer s H vs Q E hr h => ?_)
  · obtain ⟨x, dx, xs, rfl, _, hl, _⟩ := h
    show xs.length + 1 = 4
    have : (formsOf "setby").length = 3 := by decide +kernel
    omega
  · obtain ⟨x, dx, xs, rfl, hx, hl, hg, qy, qn⟩ := h
    have hkin : ("setby" : Str) ∈ kinds := by decide +kernel
    have hl4 : (formsOf "setby").length = 3 := by decide +kernel
    obtain ⟨v0, v1, v2, rfl⟩ : ∃ v0 v1 v2, xs = [v0, v1, v2] := by
      rw [hl4] at hl
      match xs, hl with
      | [v0, v1, v2], _ => exact ⟨_, _, _, rfl⟩
    have no := T.no
    simp only [List.forall_mem_cons] at no
    obtain ⟨n0, n1, n2, n3, n4, _⟩ := no
    refine ⟨_, pss_cons (ps_fld (pv 0) (pe_call GK hr (by rfl) gK FK.kp bK .nil (passes_call (takes_of rfl rfl rfl rfl) (fun _ _ _ _ h => h)) (pa_cons pe_str (pa_cons (pe_tup (pa_cons (pv 1) (pa_cons (pv 2) (pa_cons (pv 3) pa_nil)))) pa_nil))) rfl)
      (pss_cons (ps_fld (pv 0) pe_str rfl)
      (pss_cons (ps_fld (pv 0) (pv 1) rfl) (pss_cons (ps_fld (pv 0) (pv 2) rfl) (pss_one (ps_fld (pv 0) (pv 3) rfl))))), ?_⟩
    refine ⟨_, rfl, _, rfl, _, rfl, by show 3 ≤ sizeLine; decide, fun tp htp => ?_⟩
    have s1 := same_upd0 (o := .tup [v0, v1, v2]) htp
    refine ⟨"setby", tp, [v0, v1, v2], rfl, hkin, upd_same, hl, (fun y hy => (hg y hy).elim fun T h => ⟨T, h.same s1⟩), fun gd H2 s2 => ?_, fun C' fl v g d H' s e => qn C' fl v g d H' (s1.trans s) e⟩
    have hx2 := s2 _ _ (s1 _ _ hx)
    have s12 := s1.trans s2
    refine ⟨_, rfl, x, C, dx, [], rfl, hx2, T.cl, n0, by show 0 < 1000; decide, ?_⟩
    refine ⟨_, rfl, x, C, dx, _, rfl, upd_same, T.cl, n1, Nat.lt_of_le_of_lt (lenC (Nat.le_refl 0)) (by decide), ?_⟩
    refine ⟨_, rfl, _, rfl, x, C, dx, _, rfl, upd_same, T.cl, n2, Nat.lt_of_le_of_lt (lenC (lenC (Nat.le_refl 0))) (by decide), ?_⟩
    refine ⟨_, rfl, _, rfl, x, C, dx, _, rfl, upd_same, T.cl, n3, Nat.lt_of_le_of_lt (lenC (lenC (lenC (Nat.le_refl 0)))) (by decide), ?_⟩
    refine ⟨_, rfl, _, rfl, x, C, dx, _, rfl, upd_same, T.cl, n4, Nat.lt_of_le_of_lt (lenC (lenC (lenC (lenC (Nat.le_refl 0))))) (by decide), ?_⟩
    refine qy gd _ _ (fun c o nc e => ?_) upd_same ?_
    · rw [upd_ne nc, upd_ne nc, upd_ne nc, upd_ne nc, upd_ne nc]
      exact s12 c o e
    · have ntp : tp ≠ x := fun z => by rw [z, hx] at htp; cases htp
      have etp := s2 _ _ (show (upd H tp (.tup _)) tp = _ from upd_same)
      refine ⟨?_, ⟨tp, ?_, ?_⟩, ?_, (by repeat (first | exact NoM.nil | refine NoM.put ?_ (by decide +kernel)))⟩
      · simp only [lookup_putF, show ¬ (("kind" : Str) = "_told") by decide +kernel, show ¬ (("kind" : Str) = "tool") by decide +kernel, show ¬ (("kind" : Str) = "moment") by decide +kernel, show ¬ (("kind" : Str) = "by") by decide +kernel, show ¬ (("kind" : Str) = "is_sound") by decide +kernel, show ¬ (("kind" : Str) = "one") by decide +kernel, show ¬ (("kind" : Str) = "other") by decide +kernel, show ¬ (("kind" : Str) = "later") by decide +kernel, show ¬ (("_told" : Str) = "kind") by decide +kernel, show ¬ (("_told" : Str) = "tool") by decide +kernel, show ¬ (("_told" : Str) = "moment") by decide +kernel, show ¬ (("_told" : Str) = "by") by decide +kernel, show ¬ (("_told" : Str) = "is_sound") by decide +kernel, show ¬ (("_told" : Str) = "one") by decide +kernel, show ¬ (("_told" : Str) = "other") by decide +kernel, show ¬ (("_told" : Str) = "later") by decide +kernel, show ¬ (("tool" : Str) = "kind") by decide +kernel, show ¬ (("tool" : Str) = "_told") by decide +kernel, show ¬ (("tool" : Str) = "moment") by decide +kernel, show ¬ (("tool" : Str) = "by") by decide +kernel, show ¬ (("tool" : Str) = "is_sound") by decide +kernel, show ¬ (("tool" : Str) = "one") by decide +kernel, show ¬ (("tool" : Str) = "other") by decide +kernel, show ¬ (("tool" : Str) = "later") by decide +kernel, show ¬ (("moment" : Str) = "kind") by decide +kernel, show ¬ (("moment" : Str) = "_told") by decide +kernel, show ¬ (("moment" : Str) = "tool") by decide +kernel, show ¬ (("moment" : Str) = "by") by decide +kernel, show ¬ (("moment" : Str) = "is_sound") by decide +kernel, show ¬ (("moment" : Str) = "one") by decide +kernel, show ¬ (("moment" : Str) = "other") by decide +kernel, show ¬ (("moment" : Str) = "later") by decide +kernel, show ¬ (("by" : Str) = "kind") by decide +kernel, show ¬ (("by" : Str) = "_told") by decide +kernel, show ¬ (("by" : Str) = "tool") by decide +kernel, show ¬ (("by" : Str) = "moment") by decide +kernel, show ¬ (("by" : Str) = "is_sound") by decide +kernel, show ¬ (("by" : Str) = "one") by decide +kernel, show ¬ (("by" : Str) = "other") by decide +kernel, show ¬ (("by" : Str) = "later") by decide +kernel, show ¬ (("is_sound" : Str) = "kind") by decide +kernel, show ¬ (("is_sound" : Str) = "_told") by decide +kernel, show ¬ (("is_sound" : Str) = "tool") by decide +kernel, show ¬ (("is_sound" : Str) = "moment") by decide +kernel, show ¬ (("is_sound" : Str) = "by") by decide +kernel, show ¬ (("is_sound" : Str) = "one") by decide +kernel, show ¬ (("is_sound" : Str) = "other") by decide +kernel, show ¬ (("is_sound" : Str) = "later") by decide +kernel, show ¬ (("one" : Str) = "kind") by decide +kernel, show ¬ (("one" : Str) = "_told") by decide +kernel, show ¬ (("one" : Str) = "tool") by decide +kernel, show ¬ (("one" : Str) = "moment") by decide +kernel, show ¬ (("one" : Str) = "by") by decide +kernel, show ¬ (("one" : Str) = "is_sound") by decide +kernel, show ¬ (("one" : Str) = "other") by decide +kernel, show ¬ (("one" : Str) = "later") by decide +kernel, show ¬ (("other" : Str) = "kind") by decide +kernel, show ¬ (("other" : Str) = "_told") by decide +kernel, show ¬ (("other" : Str) = "tool") by decide +kernel, show ¬ (("other" : Str) = "moment") by decide +kernel, show ¬ (("other" : Str) = "by") by decide +kernel, show ¬ (("other" : Str) = "is_sound") by decide +kernel, show ¬ (("other" : Str) = "one") by decide +kernel, show ¬ (("other" : Str) = "later") by decide +kernel, show ¬ (("later" : Str) = "kind") by decide +kernel, show ¬ (("later" : Str) = "_told") by decide +kernel, show ¬ (("later" : Str) = "tool") by decide +kernel, show ¬ (("later" : Str) = "moment") by decide +kernel, show ¬ (("later" : Str) = "by") by decide +kernel, show ¬ (("later" : Str) = "is_sound") by decide +kernel, show ¬ (("later" : Str) = "one") by decide +kernel, show ¬ (("later" : Str) = "other") by decide +kernel, if_true, if_false]
      · simp only [lookup_putF, show ¬ (("kind" : Str) = "_told") by decide +kernel, show ¬ (("kind" : Str) = "tool") by decide +kernel, show ¬ (("kind" : Str) = "moment") by decide +kernel, show ¬ (("kind" : Str) = "by") by decide +kernel, show ¬ (("kind" : Str) = "is_sound") by decide +kernel, show ¬ (("kind" : Str) = "one") by decide +kernel, show ¬ (("kind" : Str) = "other") by decide +kernel, show ¬ (("kind" : Str) = "later") by decide +kernel, show ¬ (("_told" : Str) = "kind") by decide +kernel, show ¬ (("_told" : Str) = "tool") by decide +kernel, show ¬ (("_told" : Str) = "moment") by decide +kernel, show ¬ (("_told" : Str) = "by") by decide +kernel, show ¬ (("_told" : Str) = "is_sound") by decide +kernel, show ¬ (("_told" : Str) = "one") by decide +kernel, show ¬ (("_told" : Str) = "other") by decide +kernel, show ¬ (("_told" : Str) = "later") by decide +kernel, show ¬ (("tool" : Str) = "kind") by decide +kernel, show ¬ (("tool" : Str) = "_told") by decide +kernel, show ¬ (("tool" : Str) = "moment") by decide +kernel, show ¬ (("tool" : Str) = "by") by decide +kernel, show ¬ (("tool" : Str) = "is_sound") by decide +kernel, show ¬ (("tool" : Str) = "one") by decide +kernel, show ¬ (("tool" : Str) = "other") by decide +kernel, show ¬ (("tool" : Str) = "later") by decide +kernel, show ¬ (("moment" : Str) = "kind") by decide +kernel, show ¬ (("moment" : Str) = "_told") by decide +kernel, show ¬ (("moment" : Str) = "tool") by decide +kernel, show ¬ (("moment" : Str) = "by") by decide +kernel, show ¬ (("moment" : Str) = "is_sound") by decide +kernel, show ¬ (("moment" : Str) = "one") by decide +kernel, show ¬ (("moment" : Str) = "other") by decide +kernel, show ¬ (("moment" : Str) = "later") by decide +kernel, show ¬ (("by" : Str) = "kind") by decide +kernel, show ¬ (("by" : Str) = "_told") by decide +kernel, show ¬ (("by" : Str) = "tool") by decide +kernel, show ¬ (("by" : Str) = "moment") by decide +kernel, show ¬ (("by" : Str) = "is_sound") by decide +kernel, show ¬ (("by" : Str) = "one") by decide +kernel, show ¬ (("by" : Str) = "other") by decide +kernel, show ¬ (("by" : Str) = "later") by decide +kernel, show ¬ (("is_sound" : Str) = "kind") by decide +kernel, show ¬ (("is_sound" : Str) = "_told") by decide +kernel, show ¬ (("is_sound" : Str) = "tool") by decide +kernel, show ¬ (("is_sound" : Str) = "moment") by decide +kernel, show ¬ (("is_sound" : Str) = "by") by decide +kernel, show ¬ (("is_sound" : Str) = "one") by decide +kernel, show ¬ (("is_sound" : Str) = "other") by decide +kernel, show ¬ (("is_sound" : Str) = "later") by decide +kernel, show ¬ (("one" : Str) = "kind") by decide +kernel, show ¬ (("one" : Str) = "_told") by decide +kernel, show ¬ (("one" : Str) = "tool") by decide +kernel, show ¬ (("one" : Str) = "moment") by decide +kernel, show ¬ (("one" : Str) = "by") by decide +kernel, show ¬ (("one" : Str) = "is_sound") by decide +kernel, show ¬ (("one" : Str) = "other") by decide +kernel, show ¬ (("one" : Str) = "later") by decide +kernel, show ¬ (("other" : Str) = "kind") by decide +kernel, show ¬ (("other" : Str) = "_told") by decide +kernel, show ¬ (("other" : Str) = "tool") by decide +kernel, show ¬ (("other" : Str) = "moment") by decide +kernel, show ¬ (("other" : Str) = "by") by decide +kernel, show ¬ (("other" : Str) = "is_sound") by decide +kernel, show ¬ (("other" : Str) = "one") by decide +kernel, show ¬ (("other" : Str) = "later") by decide +kernel, show ¬ (("later" : Str) = "kind") by decide +kernel, show ¬ (("later" : Str) = "_told") by decide +kernel, show ¬ (("later" : Str) = "tool") by decide +kernel, show ¬ (("later" : Str) = "moment") by decide +kernel, show ¬ (("later" : Str) = "by") by decide +kernel, show ¬ (("later" : Str) = "is_sound") by decide +kernel, show ¬ (("later" : Str) = "one") by decide +kernel, show ¬ (("later" : Str) = "other") by decide +kernel, if_true, if_false]
      · repeat rw [upd_ne ntp]
        exact etp
      · rw [attrs_setby]
        simp only [List.zip_cons_cons, List.zip_nil_right, List.forall_mem_cons]
        refine ⟨(by simp only [lookup_putF, show ¬ (("kind" : Str) = "_told") by decide +kernel, show ¬ (("kind" : Str) = "tool") by decide +kernel, show ¬ (("kind" : Str) = "moment") by decide +kernel, show ¬ (("kind" : Str) = "by") by decide +kernel, show ¬ (("kind" : Str) = "is_sound") by decide +kernel, show ¬ (("kind" : Str) = "one") by decide +kernel, show ¬ (("kind" : Str) = "other") by decide +kernel, show ¬ (("kind" : Str) = "later") by decide +kernel, show ¬ (("_told" : Str) = "kind") by decide +kernel, show ¬ (("_told" : Str) = "tool") by decide +kernel, show ¬ (("_told" : Str) = "moment") by decide +kernel, show ¬ (("_told" : Str) = "by") by decide +kernel, show ¬ (("_told" : Str) = "is_sound") by decide +kernel, show ¬ (("_told" : Str) = "one") by decide +kernel, show ¬ (("_told" : Str) = "other") by decide +kernel, show ¬ (("_told" : Str) = "later") by decide +kernel, show ¬ (("tool" : Str) = "kind") by decide +kernel, show ¬ (("tool" : Str) = "_told") by decide +kernel, show ¬ (("tool" : Str) = "moment") by decide +kernel, show ¬ (("tool" : Str) = "by") by decide +kernel, show ¬ (("tool" : Str) = "is_sound") by decide +kernel, show ¬ (("tool" : Str) = "one") by decide +kernel, show ¬ (("tool" : Str) = "other") by decide +kernel, show ¬ (("tool" : Str) = "later") by decide +kernel, show ¬ (("moment" : Str) = "kind") by decide +kernel, show ¬ (("moment" : Str) = "_told") by decide +kernel, show ¬ (("moment" : Str) = "tool") by decide +kernel, show ¬ (("moment" : Str) = "by") by decide +kernel, show ¬ (("moment" : Str) = "is_sound") by decide +kernel, show ¬ (("moment" : Str) = "one") by decide +kernel, show ¬ (("moment" : Str) = "other") by decide +kernel, show ¬ (("moment" : Str) = "later") by decide +kernel, show ¬ (("by" : Str) = "kind") by decide +kernel, show ¬ (("by" : Str) = "_told") by decide +kernel, show ¬ (("by" : Str) = "tool") by decide +kernel, show ¬ (("by" : Str) = "moment") by decide +kernel, show ¬ (("by" : Str) = "is_sound") by decide +kernel, show ¬ (("by" : Str) = "one") by decide +kernel, show ¬ (("by" : Str) = "other") by decide +kernel, show ¬ (("by" : Str) = "later") by decide +kernel, show ¬ (("is_sound" : Str) = "kind") by decide +kernel, show ¬ (("is_sound" : Str) = "_told") by decide +kernel, show ¬ (("is_sound" : Str) = "tool") by decide +kernel, show ¬ (("is_sound" : Str) = "moment") by decide +kernel, show ¬ (("is_sound" : Str) = "by") by decide +kernel, show ¬ (("is_sound" : Str) = "one") by decide +kernel, show ¬ (("is_sound" : Str) = "other") by decide +kernel, show ¬ (("is_sound" : Str) = "later") by decide +kernel, show ¬ (("one" : Str) = "kind") by decide +kernel, show ¬ (("one" : Str) = "_told") by decide +kernel, show ¬ (("one" : Str) = "tool") by decide +kernel, show ¬ (("one" : Str) = "moment") by decide +kernel, show ¬ (("one" : Str) = "by") by decide +kernel, show ¬ (("one" : Str) = "is_sound") by decide +kernel, show ¬ (("one" : Str) = "other") by decide +kernel, show ¬ (("one" : Str) = "later") by decide +kernel, show ¬ (("other" : Str) = "kind") by decide +kernel, show ¬ (("other" : Str) = "_told") by decide +kernel, show ¬ (("other" : Str) = "tool") by decide +kernel, show ¬ (("other" : Str) = "moment") by decide +kernel, show ¬ (("other" : Str) = "by") by decide +kernel, show ¬ (("other" : Str) = "is_sound") by decide +kernel, show ¬ (("other" : Str) = "one") by decide +kernel, show ¬ (("other" : Str) = "later") by decide +kernel, show ¬ (("later" : Str) = "kind") by decide +kernel, show ¬ (("later" : Str) = "_told") by decide +kernel, show ¬ (("later" : Str) = "tool") by decide +kernel, show ¬ (("later" : Str) = "moment") by decide +kernel, show ¬ (("later" : Str) = "by") by decide +kernel, show ¬ (("later" : Str) = "is_sound") by decide +kernel, show ¬ (("later" : Str) = "one") by decide +kernel, show ¬ (("later" : Str) = "other") by decide +kernel, if_true, if_false]), (by simp only [lookup_putF, show ¬ (("kind" : Str) = "_told") by decide +kernel, show ¬ (("kind" : Str) = "tool") by decide +kernel, show ¬ (("kind" : Str) = "moment") by decide +kernel, show ¬ (("kind" : Str) = "by") by decide +kernel, show ¬ (("kind" : Str) = "is_sound") by decide +kernel, show ¬ (("kind" : Str) = "one") by decide +kernel, show ¬ (("kind" : Str) = "other") by decide +kernel, show ¬ (("kind" : Str) = "later") by decide +kernel, show ¬ (("_told" : Str) = "kind") by decide +kernel, show ¬ (("_told" : Str) = "tool") by decide +kernel, show ¬ (("_told" : Str) = "moment") by decide +kernel, show ¬ (("_told" : Str) = "by") by decide +kernel, show ¬ (("_told" : Str) = "is_sound") by decide +kernel, show ¬ (("_told" : Str) = "one") by decide +kernel, show ¬ (("_told" : Str) = "other") by decide +kernel, show ¬ (("_told" : Str) = "later") by decide +kernel, show ¬ (("tool" : Str) = "kind") by decide +kernel, show ¬ (("tool" : Str) = "_told") by decide +kernel, show ¬ (("tool" : Str) = "moment") by decide +kernel, show ¬ (("tool" : Str) = "by") by decide +kernel, show ¬ (("tool" : Str) = "is_sound") by decide +kernel, show ¬ (("tool" : Str) = "one") by decide +kernel, show ¬ (("tool" : Str) = "other") by decide +kernel, show ¬ (("tool" : Str) = "later") by decide +kernel, show ¬ (("moment" : Str) = "kind") by decide +kernel, show ¬ (("moment" : Str) = "_told") by decide +kernel, show ¬ (("moment" : Str) = "tool") by decide +kernel, show ¬ (("moment" : Str) = "by") by decide +kernel, show ¬ (("moment" : Str) = "is_sound") by decide +kernel, show ¬ (("moment" : Str) = "one") by decide +kernel, show ¬ (("moment" : Str) = "other") by decide +kernel, show ¬ (("moment" : Str) = "later") by decide +kernel, show ¬ (("by" : Str) = "kind") by decide +kernel, show ¬ (("by" : Str) = "_told") by decide +kernel, show ¬ (("by" : Str) = "tool") by decide +kernel, show ¬ (("by" : Str) = "moment") by decide +kernel, show ¬ (("by" : Str) = "is_sound") by decide +kernel, show ¬ (("by" : Str) = "one") by decide +kernel, show ¬ (("by" : Str) = "other") by decide +kernel, show ¬ (("by" : Str) = "later") by decide +kernel, show ¬ (("is_sound" : Str) = "kind") by decide +kernel, show ¬ (("is_sound" : Str) = "_told") by decide +kernel, show ¬ (("is_sound" : Str) = "tool") by decide +kernel, show ¬ (("is_sound" : Str) = "moment") by decide +kernel, show ¬ (("is_sound" : Str) = "by") by decide +kernel, show ¬ (("is_sound" : Str) = "one") by decide +kernel, show ¬ (("is_sound" : Str) = "other") by decide +kernel, show ¬ (("is_sound" : Str) = "later") by decide +kernel, show ¬ (("one" : Str) = "kind") by decide +kernel, show ¬ (("one" : Str) = "_told") by decide +kernel, show ¬ (("one" : Str) = "tool") by decide +kernel, show ¬ (("one" : Str) = "moment") by decide +kernel, show ¬ (("one" : Str) = "by") by decide +kernel, show ¬ (("one" : Str) = "is_sound") by decide +kernel, show ¬ (("one" : Str) = "other") by decide +kernel, show ¬ (("one" : Str) = "later") by decide +kernel, show ¬ (("other" : Str) = "kind") by decide +kernel, show ¬ (("other" : Str) = "_told") by decide +kernel, show ¬ (("other" : Str) = "tool") by decide +kernel, show ¬ (("other" : Str) = "moment") by decide +kernel, show ¬ (("other" : Str) = "by") by decide +kernel, show ¬ (("other" : Str) = "is_sound") by decide +kernel, show ¬ (("other" : Str) = "one") by decide +kernel, show ¬ (("other" : Str) = "later") by decide +kernel, show ¬ (("later" : Str) = "kind") by decide +kernel, show ¬ (("later" : Str) = "_told") by decide +kernel, show ¬ (("later" : Str) = "tool") by decide +kernel, show ¬ (("later" : Str) = "moment") by decide +kernel, show ¬ (("later" : Str) = "by") by decide +kernel, show ¬ (("later" : Str) = "is_sound") by decide +kernel, show ¬ (("later" : Str) = "one") by decide +kernel, show ¬ (("later" : Str) = "other") by decide +kernel, if_true, if_false]), (by simp only [lookup_putF, show ¬ (("kind" : Str) = "_told") by decide +kernel, show ¬ (("kind" : Str) = "tool") by decide +kernel, show ¬ (("kind" : Str) = "moment") by decide +kernel, show ¬ (("kind" : Str) = "by") by decide +kernel, show ¬ (("kind" : Str) = "is_sound") by decide +kernel, show ¬ (("kind" : Str) = "one") by decide +kernel, show ¬ (("kind" : Str) = "other") by decide +kernel, show ¬ (("kind" : Str) = "later") by decide +kernel, show ¬ (("_told" : Str) = "kind") by decide +kernel, show ¬ (("_told" : Str) = "tool") by decide +kernel, show ¬ (("_told" : Str) = "moment") by decide +kernel, show ¬ (("_told" : Str) = "by") by decide +kernel, show ¬ (("_told" : Str) = "is_sound") by decide +kernel, show ¬ (("_told" : Str) = "one") by decide +kernel, show ¬ (("_told" : Str) = "other") by decide +kernel, show ¬ (("_told" : Str) = "later") by decide +kernel, show ¬ (("tool" : Str) = "kind") by decide +kernel, show ¬ (("tool" : Str) = "_told") by decide +kernel, show ¬ (("tool" : Str) = "moment") by decide +kernel, show ¬ (("tool" : Str) = "by") by decide +kernel, show ¬ (("tool" : Str) = "is_sound") by decide +kernel, show ¬ (("tool" : Str) = "one") by decide +kernel, show ¬ (("tool" : Str) = "other") by decide +kernel, show ¬ (("tool" : Str) = "later") by decide +kernel, show ¬ (("moment" : Str) = "kind") by decide +kernel, show ¬ (("moment" : Str) = "_told") by decide +kernel, show ¬ (("moment" : Str) = "tool") by decide +kernel, show ¬ (("moment" : Str) = "by") by decide +kernel, show ¬ (("moment" : Str) = "is_sound") by decide +kernel, show ¬ (("moment" : Str) = "one") by decide +kernel, show ¬ (("moment" : Str) = "other") by decide +kernel, show ¬ (("moment" : Str) = "later") by decide +kernel, show ¬ (("by" : Str) = "kind") by decide +kernel, show ¬ (("by" : Str) = "_told") by decide +kernel, show ¬ (("by" : Str) = "tool") by decide +kernel, show ¬ (("by" : Str) = "moment") by decide +kernel, show ¬ (("by" : Str) = "is_sound") by decide +kernel, show ¬ (("by" : Str) = "one") by decide +kernel, show ¬ (("by" : Str) = "other") by decide +kernel, show ¬ (("by" : Str) = "later") by decide +kernel, show ¬ (("is_sound" : Str) = "kind") by decide +kernel, show ¬ (("is_sound" : Str) = "_told") by decide +kernel, show ¬ (("is_sound" : Str) = "tool") by decide +kernel, show ¬ (("is_sound" : Str) = "moment") by decide +kernel, show ¬ (("is_sound" : Str) = "by") by decide +kernel, show ¬ (("is_sound" : Str) = "one") by decide +kernel, show ¬ (("is_sound" : Str) = "other") by decide +kernel, show ¬ (("is_sound" : Str) = "later") by decide +kernel, show ¬ (("one" : Str) = "kind") by decide +kernel, show ¬ (("one" : Str) = "_told") by decide +kernel, show ¬ (("one" : Str) = "tool") by decide +kernel, show ¬ (("one" : Str) = "moment") by decide +kernel, show ¬ (("one" : Str) = "by") by decide +kernel, show ¬ (("one" : Str) = "is_sound") by decide +kernel, show ¬ (("one" : Str) = "other") by decide +kernel, show ¬ (("one" : Str) = "later") by decide +kernel, show ¬ (("other" : Str) = "kind") by decide +kernel, show ¬ (("other" : Str) = "_told") by decide +kernel, show ¬ (("other" : Str) = "tool") by decide +kernel, show ¬ (("other" : Str) = "moment") by decide +kernel, show ¬ (("other" : Str) = "by") by decide +kernel, show ¬ (("other" : Str) = "is_sound") by decide +kernel, show ¬ (("other" : Str) = "one") by decide +kernel, show ¬ (("other" : Str) = "later") by decide +kernel, show ¬ (("later" : Str) = "kind") by decide +kernel, show ¬ (("later" : Str) = "_told") by decide +kernel, show ¬ (("later" : Str) = "tool") by decide +kernel, show ¬ (("later" : Str) = "moment") by decide +kernel, show ¬ (("later" : Str) = "by") by decide +kernel, show ¬ (("later" : Str) = "is_sound") by decide +kernel, show ¬ (("later" : Str) = "one") by decide +kernel, show ¬ (("later" : Str) = "other") by decide +kernel, if_true, if_false]), fun _ h => nomatch h⟩
abbrev sFound : Stmt := inClass (topS 35) 0
theorem scFound : FnScope ["self", "tool", "moment", "is_sound"] ["self", "tool", "moment", "is_sound"] (defScope sFound) := ⟨rfl, rfl, rfl, by decide +kernel, rfl, by decide +kernel, by decide +kernel⟩
theorem ok_Found {CN CM CS C f fK : Addr} {fd fdK : FuncData} (F : Fun K "__init__" "Found.__init__" sFound f fd) (T : RowC K C ["_told", "kind", "tool", "moment", "is_sound"]) (FK : Fun K "checked" "checked" sChecked fK fdK) (bK : Binds K fdK ["kind", "told"] []) (gK : mg "checked" = some (.ref fK))
    (GK : FnOk P w K mg base (L2.CX P w) 4 fK fdK ["kind", "told"] (spChecked CN CM CS)) : FnOk P w K mg base (L2.CX P w) 5 f fd ["self", "tool", "moment", "is_sound"] (spRow CN CM CS C "found") := by
  refine F.okX scFound (fun vs H Q E h => ?_) (fun cdv A outer s H vs Q E hr h => ?_)
  · obtain ⟨x, dx, xs, rfl, _, hl, _⟩ := h
    show xs.length + 1 = 4
    have : (formsOf "found").length = 3 := by decide +kernel
    omega
  · obtain ⟨x, dx, xs, rfl, hx, hl, hg, qy, qn⟩ := h
    have hkin : ("found" : Str) ∈ kinds := by decide +kernel
    have hl4 : (formsOf "found").length = 3 := by decide +kernel
    obtain ⟨v0, v1, v2, rfl⟩ : ∃ v0 v1 v2, xs = [v0, v1, v2] := by
      rw [hl4] at hl
      match xs, hl with
      | [v0, v1, v2], _ => exact ⟨_, _, _, rfl⟩
    have no := T.no
    simp only [List.forall_mem_cons] at no
    obtain ⟨n0, n1, n2, n3, n4, _⟩ := no
    refine ⟨_, pss_cons (ps_fld (pv 0) (pe_call GK hr (by rfl) gK FK.kp bK .nil (passes_call (takes_of rfl rfl rfl rfl) (fun _ _ _ _ h => h)) (pa_cons pe_str (pa_cons (pe_tup (pa_cons (pv 1) (pa_cons (pv 2) (pa_cons (pv 3) pa_nil)))) pa_nil))) rfl)
      (pss_cons (ps_fld (pv 0) pe_str rfl)
      (pss_cons (ps_fld (pv 0) (pv 1) rfl) (pss_cons (ps_fld (pv 0) (pv 2) rfl) (pss_one (ps_fld (pv 0) (pv 3) rfl))))), ?_⟩
    refine ⟨_, rfl, _, rfl, _, rfl, by show 3 ≤ sizeLine; decide, fun tp htp => ?_⟩
    have s1 := same_upd0 (o := .tup [v0, v1, v2]) htp
    refine ⟨"found", tp, [v0, v1, v2], rfl, hkin, upd_same, hl, (fun y hy => (hg y hy).elim fun T h => ⟨T, h.same s1⟩), fun gd H2 s2 => ?_, fun C' fl v g d H' s e => qn C' fl v g d H' (s1.trans s) e⟩
    have hx2 := s2 _ _ (s1 _ _ hx)
    have s12 := s1.trans s2
    refine ⟨_, rfl, x, C, dx, [], rfl, hx2, T.cl, n0, by show 0 < 1000; decide, ?_⟩
    refine ⟨_, rfl, x, C, dx, _, rfl, upd_same, T.cl, n1, Nat.lt_of_le_of_lt (lenC (Nat.le_refl 0)) (by decide), ?_⟩
    refine ⟨_, rfl, _, rfl, x, C, dx, _, rfl, upd_same, T.cl, n2, Nat.lt_of_le_of_lt (lenC (lenC (Nat.le_refl 0))) (by decide), ?_⟩
    refine ⟨_, rfl, _, rfl, x, C, dx, _, rfl, upd_same, T.cl, n3, Nat.lt_of_le_of_lt (lenC (lenC (lenC (Nat.le_refl 0)))) (by decide), ?_⟩
    refine ⟨_, rfl, _, rfl, x, C, dx, _, rfl, upd_same, T.cl, n4, Nat.lt_of_le_of_lt (lenC (lenC (lenC (lenC (Nat.le_refl 0))))) (by decide), ?_⟩
    refine qy gd _ _ (fun c o nc e => ?_) upd_same ?_
    · rw [upd_ne nc, upd_ne nc, upd_ne nc, upd_ne nc, upd_ne nc]
      exact s12 c o e
    · have ntp : tp ≠ x := fun z => by rw [z, hx] at htp; cases htp
      have etp := s2 _ _ (show (upd H tp (.tup _)) tp = _ from upd_same)
      refine ⟨?_, ⟨tp, ?_, ?_⟩, ?_, (by repeat (first | exact NoM.nil | refine NoM.put ?_ (by decide +kernel)))⟩
      · simp only [lookup_putF, show ¬ (("kind" : Str) = "_told") by decide +kernel, show ¬ (("kind" : Str) = "tool") by decide +kernel, show ¬ (("kind" : Str) = "moment") by decide +kernel, show ¬ (("kind" : Str) = "by") by decide +kernel, show ¬ (("kind" : Str) = "is_sound") by decide +kernel, show ¬ (("kind" : Str) = "one") by decide +kernel, show ¬ (("kind" : Str) = "other") by decide +kernel, show ¬ (("kind" : Str) = "later") by decide +kernel, show ¬ (("_told" : Str) = "kind") by decide +kernel, show ¬ (("_told" : Str) = "tool") by decide +kernel, show ¬ (("_told" : Str) = "moment") by decide +kernel, show ¬ (("_told" : Str) = "by") by decide +kernel, show ¬ (("_told" : Str) = "is_sound") by decide +kernel, show ¬ (("_told" : Str) = "one") by decide +kernel, show ¬ (("_told" : Str) = "other") by decide +kernel, show ¬ (("_told" : Str) = "later") by decide +kernel, show ¬ (("tool" : Str) = "kind") by decide +kernel, show ¬ (("tool" : Str) = "_told") by decide +kernel, show ¬ (("tool" : Str) = "moment") by decide +kernel, show ¬ (("tool" : Str) = "by") by decide +kernel, show ¬ (("tool" : Str) = "is_sound") by decide +kernel, show ¬ (("tool" : Str) = "one") by decide +kernel, show ¬ (("tool" : Str) = "other") by decide +kernel, show ¬ (("tool" : Str) = "later") by decide +kernel, show ¬ (("moment" : Str) = "kind") by decide +kernel, show ¬ (("moment" : Str) = "_told") by decide +kernel, show ¬ (("moment" : Str) = "tool") by decide +kernel, show ¬ (("moment" : Str) = "by") by decide +kernel, show ¬ (("moment" : Str) = "is_sound") by decide +kernel, show ¬ (("moment" : Str) = "one") by decide +kernel, show ¬ (("moment" : Str) = "other") by decide +kernel, show ¬ (("moment" : Str) = "later") by decide +kernel, show ¬ (("by" : Str) = "kind") by decide +kernel, show ¬ (("by" : Str) = "_told") by decide +kernel, show ¬ (("by" : Str) = "tool") by decide +kernel, show ¬ (("by" : Str) = "moment") by decide +kernel, show ¬ (("by" : Str) = "is_sound") by decide +kernel, show ¬ (("by" : Str) = "one") by decide +kernel, show ¬ (("by" : Str) = "other") by decide +kernel, show ¬ (("by" : Str) = "later") by decide +kernel, show ¬ (("is_sound" : Str) = "kind") by decide +kernel, show ¬ (("is_sound" : Str) = "_told") by decide +kernel, show ¬ (("is_sound" : Str) = "tool") by decide +kernel, show ¬ (("is_sound" : Str) = "moment") by decide +kernel, show ¬ (("is_sound" : Str) = "by") by decide +kernel, show ¬ (("is_sound" : Str) = "one") by decide +kernel, show ¬ (("is_sound" : Str) = "other") by decide +kernel, show ¬ (("is_sound" : Str) = "later") by decide +kernel, show ¬ (("one" : Str) = "kind") by decide +kernel, show ¬ (("one" : Str) = "_told") by decide +kernel, show ¬ (("one" : Str) = "tool") by decide +kernel, show ¬ (("one" : Str) = "moment") by decide +kernel, show ¬ (("one" : Str) = "by") by decide +kernel, show ¬ (("one" : Str) = "is_sound") by decide +kernel, show ¬ (("one" : Str) = "other") by decide +kernel, show ¬ (("one" : Str) = "later") by decide +kernel, show ¬ (("other" : Str) = "kind") by decide +kernel, show ¬ (("other" : Str) = "_told") by decide +kernel, show ¬ (("other" : Str) = "tool") by decide +kernel, show ¬ (("other" : Str) = "moment") by decide +kernel, show ¬ (("other" : Str) = "by") by decide +kernel, show ¬ (("other" : Str) = "is_sound") by decide +kernel, show ¬ (("other" : Str) = "one") by decide +kernel, show ¬ (("other" : Str) = "later") by decide +kernel, show ¬ (("later" : Str) = "kind") by decide +kernel, show ¬ (("later" : Str) = "_told") by decide +kernel, show ¬ (("later" : Str) = "tool") by decide +kernel, show ¬ (("later" : Str) = "moment") by decide +kernel, show ¬ (("later" : Str) = "by") by decide +kernel, show ¬ (("later" : Str) = "is_sound") by decide +kernel, show ¬ (("later" : Str) = "one") by decide +kernel, show ¬ (("later" : Str) = "other") by decide +kernel, if_true, if_false]
      · simp only [lookup_putF, show ¬ (("kind" : Str) = "_told") by decide +kernel, show ¬ (("kind" : Str) = "tool") by decide +kernel, show ¬ (("kind" : Str) = "moment") by decide +kernel, show ¬ (("kind" : Str) = "by") by decide +kernel, show ¬ (("kind" : Str) = "is_sound") by decide +kernel, show ¬ (("kind" : Str) = "one") by decide +kernel, show ¬ (("kind" : Str) = "other") by decide +kernel, show ¬ (("kind" : Str) = "later") by decide +kernel, show ¬ (("_told" : Str) = "kind") by decide +kernel, show ¬ (("_told" : Str) = "tool") by decide +kernel, show ¬ (("_told" : Str) = "moment") by decide +kernel, show ¬ (("_told" : Str) = "by") by decide +kernel, show ¬ (("_told" : Str) = "is_sound") by decide +kernel, show ¬ (("_told" : Str) = "one") by decide +kernel, show ¬ (("_told" : Str) = "other") by decide +kernel, show ¬ (("_told" : Str) = "later") by decide +kernel, show ¬ (("tool" : Str) = "kind") by decide +kernel, show ¬ (("tool" : Str) = "_told") by decide +kernel, show ¬ (("tool" : Str) = "moment") by decide +kernel, show ¬ (("tool" : Str) = "by") by decide +kernel, show ¬ (("tool" : Str) = "is_sound") by decide +kernel, show ¬ (("tool" : Str) = "one") by decide +kernel, show ¬ (("tool" : Str) = "other") by decide +kernel, show ¬ (("tool" : Str) = "later") by decide +kernel, show ¬ (("moment" : Str) = "kind") by decide +kernel, show ¬ (("moment" : Str) = "_told") by decide +kernel, show ¬ (("moment" : Str) = "tool") by decide +kernel, show ¬ (("moment" : Str) = "by") by decide +kernel, show ¬ (("moment" : Str) = "is_sound") by decide +kernel, show ¬ (("moment" : Str) = "one") by decide +kernel, show ¬ (("moment" : Str) = "other") by decide +kernel, show ¬ (("moment" : Str) = "later") by decide +kernel, show ¬ (("by" : Str) = "kind") by decide +kernel, show ¬ (("by" : Str) = "_told") by decide +kernel, show ¬ (("by" : Str) = "tool") by decide +kernel, show ¬ (("by" : Str) = "moment") by decide +kernel, show ¬ (("by" : Str) = "is_sound") by decide +kernel, show ¬ (("by" : Str) = "one") by decide +kernel, show ¬ (("by" : Str) = "other") by decide +kernel, show ¬ (("by" : Str) = "later") by decide +kernel, show ¬ (("is_sound" : Str) = "kind") by decide +kernel, show ¬ (("is_sound" : Str) = "_told") by decide +kernel, show ¬ (("is_sound" : Str) = "tool") by decide +kernel, show ¬ (("is_sound" : Str) = "moment") by decide +kernel, show ¬ (("is_sound" : Str) = "by") by decide +kernel, show ¬ (("is_sound" : Str) = "one") by decide +kernel, show ¬ (("is_sound" : Str) = "other") by decide +kernel, show ¬ (("is_sound" : Str) = "later") by decide +kernel, show ¬ (("one" : Str) = "kind") by decide +kernel, show ¬ (("one" : Str) = "_told") by decide +kernel, show ¬ (("one" : Str) = "tool") by decide +kernel, show ¬ (("one" : Str) = "moment") by decide +kernel, show ¬ (("one" : Str) = "by") by decide +kernel, show ¬ (("one" : Str) = "is_sound") by decide +kernel, show ¬ (("one" : Str) = "other") by decide +kernel, show ¬ (("one" : Str) = "later") by decide +kernel, show ¬ (("other" : Str) = "kind") by decide +kernel, show ¬ (("other" : Str) = "_told") by decide +kernel, show ¬ (("other" : Str) = "tool") by decide +kernel, show ¬ (("other" : Str) = "moment") by decide +kernel, show ¬ (("other" : Str) = "by") by decide +kernel, show ¬ (("other" : Str) = "is_sound") by decide +kernel, show ¬ (("other" : Str) = "one") by decide +kernel, show ¬ (("other" : Str) = "later") by decide +kernel, show ¬ (("later" : Str) = "kind") by decide +kernel, show ¬ (("later" : Str) = "_told") by decide +kernel, show ¬ (("later" : Str) = "tool") by decide +kernel, show ¬ (("later" : Str) = "moment") by decide +kernel, show ¬ (("later" : Str) = "by") by decide +kernel, show ¬ (("later" : Str) = "is_sound") by decide +kernel, show ¬ (("later" : Str) = "one") by decide +kernel, show ¬ (("later" : Str) = "other") by decide +kernel, if_true, if_false]
      · repeat rw [upd_ne ntp]
        exact etp
      · rw [attrs_found]
        simp only [List.zip_cons_cons, List.zip_nil_right, List.forall_mem_cons]
        refine ⟨(by simp only [lookup_putF, show ¬ (("kind" : Str) = "_told") by decide +kernel, show ¬ (("kind" : Str) = "tool") by decide +kernel, show ¬ (("kind" : Str) = "moment") by decide +kernel, show ¬ (("kind" : Str) = "by") by decide +kernel, show ¬ (("kind" : Str) = "is_sound") by decide +kernel, show ¬ (("kind" : Str) = "one") by decide +kernel, show ¬ (("kind" : Str) = "other") by decide +kernel, show ¬ (("kind" : Str) = "later") by decide +kernel, show ¬ (("_told" : Str) = "kind") by decide +kernel, show ¬ (("_told" : Str) = "tool") by decide +kernel, show ¬ (("_told" : Str) = "moment") by decide +kernel, show ¬ (("_told" : Str) = "by") by decide +kernel, show ¬ (("_told" : Str) = "is_sound") by decide +kernel, show ¬ (("_told" : Str) = "one") by decide +kernel, show ¬ (("_told" : Str) = "other") by decide +kernel, show ¬ (("_told" : Str) = "later") by decide +kernel, show ¬ (("tool" : Str) = "kind") by decide +kernel, show ¬ (("tool" : Str) = "_told") by decide +kernel, show ¬ (("tool" : Str) = "moment") by decide +kernel, show ¬ (("tool" : Str) = "by") by decide +kernel, show ¬ (("tool" : Str) = "is_sound") by decide +kernel, show ¬ (("tool" : Str) = "one") by decide +kernel, show ¬ (("tool" : Str) = "other") by decide +kernel, show ¬ (("tool" : Str) = "later") by decide +kernel, show ¬ (("moment" : Str) = "kind") by decide +kernel, show ¬ (("moment" : Str) = "_told") by decide +kernel, show ¬ (("moment" : Str) = "tool") by decide +kernel, show ¬ (("moment" : Str) = "by") by decide +kernel, show ¬ (("moment" : Str) = "is_sound") by decide +kernel, show ¬ (("moment" : Str) = "one") by decide +kernel, show ¬ (("moment" : Str) = "other") by decide +kernel, show ¬ (("moment" : Str) = "later") by decide +kernel, show ¬ (("by" : Str) = "kind") by decide +kernel, show ¬ (("by" : Str) = "_told") by decide +kernel, show ¬ (("by" : Str) = "tool") by decide +kernel, show ¬ (("by" : Str) = "moment") by decide +kernel, show ¬ (("by" : Str) = "is_sound") by decide +kernel, show ¬ (("by" : Str) = "one") by decide +kernel, show ¬ (("by" : Str) = "other") by decide +kernel, show ¬ (("by" : Str) = "later") by decide +kernel, show ¬ (("is_sound" : Str) = "kind") by decide +kernel, show ¬ (("is_sound" : Str) = "_told") by decide +kernel, show ¬ (("is_sound" : Str) = "tool") by decide +kernel, show ¬ (("is_sound" : Str) = "moment") by decide +kernel, show ¬ (("is_sound" : Str) = "by") by decide +kernel, show ¬ (("is_sound" : Str) = "one") by decide +kernel, show ¬ (("is_sound" : Str) = "other") by decide +kernel, show ¬ (("is_sound" : Str) = "later") by decide +kernel, show ¬ (("one" : Str) = "kind") by decide +kernel, show ¬ (("one" : Str) = "_told") by decide +kernel, show ¬ (("one" : Str) = "tool") by decide +kernel, show ¬ (("one" : Str) = "moment") by decide +kernel, show ¬ (("one" : Str) = "by") by decide +kernel, show ¬ (("one" : Str) = "is_sound") by decide +kernel, show ¬ (("one" : Str) = "other") by decide +kernel, show ¬ (("one" : Str) = "later") by decide +kernel, show ¬ (("other" : Str) = "kind") by decide +kernel, show ¬ (("other" : Str) = "_told") by decide +kernel, show ¬ (("other" : Str) = "tool") by decide +kernel, show ¬ (("other" : Str) = "moment") by decide +kernel, show ¬ (("other" : Str) = "by") by decide +kernel, show ¬ (("other" : Str) = "is_sound") by decide +kernel, show ¬ (("other" : Str) = "one") by decide +kernel, show ¬ (("other" : Str) = "later") by decide +kernel, show ¬ (("later" : Str) = "kind") by decide +kernel, show ¬ (("later" : Str) = "_told") by decide +kernel, show ¬ (("later" : Str) = "tool") by decide +kernel, show ¬ (("later" : Str) = "moment") by decide +kernel, show ¬ (("later" : Str) = "by") by decide +kernel, show ¬ (("later" : Str) = "is_sound") by decide +kernel, show ¬ (("later" : Str) = "one") by decide +kernel, show ¬ (("later" : Str) = "other") by decide +kernel, if_true, if_false]), (by simp only [lookup_putF, show ¬ (("kind" : Str) = "_told") by decide +kernel, show ¬ (("kind" : Str) = "tool") by decide +kernel, show ¬ (("kind" : Str) = "moment") by decide +kernel, show ¬ (("kind" : Str) = "by") by decide +kernel, show ¬ (("kind" : Str) = "is_sound") by decide +kernel, show ¬ (("kind" : Str) = "one") by decide +kernel, show ¬ (("kind" : Str) = "other") by decide +kernel, show ¬ (("kind" : Str) = "later") by decide +kernel, show ¬ (("_told" : Str) = "kind") by decide +kernel, show ¬ (("_told" : Str) = "tool") by decide +kernel, show ¬ (("_told" : Str) = "moment") by decide +kernel, show ¬ (("_told" : Str) = "by") by decide +kernel, show ¬ (("_told" : Str) = "is_sound") by decide +kernel, show ¬ (("_told" : Str) = "one") by decide +kernel, show ¬ (("_told" : Str) = "other") by decide +kernel, show ¬ (("_told" : Str) = "later") by decide +kernel, show ¬ (("tool" : Str) = "kind") by decide +kernel, show ¬ (("tool" : Str) = "_told") by decide +kernel, show ¬ (("tool" : Str) = "moment") by decide +kernel, show ¬ (("tool" : Str) = "by") by decide +kernel, show ¬ (("tool" : Str) = "is_sound") by decide +kernel, show ¬ (("tool" : Str) = "one") by decide +kernel, show ¬ (("tool" : Str) = "other") by decide +kernel, show ¬ (("tool" : Str) = "later") by decide +kernel, show ¬ (("moment" : Str) = "kind") by decide +kernel, show ¬ (("moment" : Str) = "_told") by decide +kernel, show ¬ (("moment" : Str) = "tool") by decide +kernel, show ¬ (("moment" : Str) = "by") by decide +kernel, show ¬ (("moment" : Str) = "is_sound") by decide +kernel, show ¬ (("moment" : Str) = "one") by decide +kernel, show ¬ (("moment" : Str) = "other") by decide +kernel, show ¬ (("moment" : Str) = "later") by decide +kernel, show ¬ (("by" : Str) = "kind") by decide +kernel, show ¬ (("by" : Str) = "_told") by decide +kernel, show ¬ (("by" : Str) = "tool") by decide +kernel, show ¬ (("by" : Str) = "moment") by decide +kernel, show ¬ (("by" : Str) = "is_sound") by decide +kernel, show ¬ (("by" : Str) = "one") by decide +kernel, show ¬ (("by" : Str) = "other") by decide +kernel, show ¬ (("by" : Str) = "later") by decide +kernel, show ¬ (("is_sound" : Str) = "kind") by decide +kernel, show ¬ (("is_sound" : Str) = "_told") by decide +kernel, show ¬ (("is_sound" : Str) = "tool") by decide +kernel, show ¬ (("is_sound" : Str) = "moment") by decide +kernel, show ¬ (("is_sound" : Str) = "by") by decide +kernel, show ¬ (("is_sound" : Str) = "one") by decide +kernel, show ¬ (("is_sound" : Str) = "other") by decide +kernel, show ¬ (("is_sound" : Str) = "later") by decide +kernel, show ¬ (("one" : Str) = "kind") by decide +kernel, show ¬ (("one" : Str) = "_told") by decide +kernel, show ¬ (("one" : Str) = "tool") by decide +kernel, show ¬ (("one" : Str) = "moment") by decide +kernel, show ¬ (("one" : Str) = "by") by decide +kernel, show ¬ (("one" : Str) = "is_sound") by decide +kernel, show ¬ (("one" : Str) = "other") by decide +kernel, show ¬ (("one" : Str) = "later") by decide +kernel, show ¬ (("other" : Str) = "kind") by decide +kernel, show ¬ (("other" : Str) = "_told") by decide +kernel, show ¬ (("other" : Str) = "tool") by decide +kernel, show ¬ (("other" : Str) = "moment") by decide +kernel, show ¬ (("other" : Str) = "by") by decide +kernel, show ¬ (("other" : Str) = "is_sound") by decide +kernel, show ¬ (("other" : Str) = "one") by decide +kernel, show ¬ (("other" : Str) = "later") by decide +kernel, show ¬ (("later" : Str) = "kind") by decide +kernel, show ¬ (("later" : Str) = "_told") by decide +kernel, show ¬ (("later" : Str) = "tool") by decide +kernel, show ¬ (("later" : Str) = "moment") by decide +kernel, show ¬ (("later" : Str) = "by") by decide +kernel, show ¬ (("later" : Str) = "is_sound") by decide +kernel, show ¬ (("later" : Str) = "one") by decide +kernel, show ¬ (("later" : Str) = "other") by decide +kernel, if_true, if_false]), (by simp only [lookup_putF, show ¬ (("kind" : Str) = "_told") by decide +kernel, show ¬ (("kind" : Str) = "tool") by decide +kernel, show ¬ (("kind" : Str) = "moment") by decide +kernel, show ¬ (("kind" : Str) = "by") by decide +kernel, show ¬ (("kind" : Str) = "is_sound") by decide +kernel, show ¬ (("kind" : Str) = "one") by decide +kernel, show ¬ (("kind" : Str) = "other") by decide +kernel, show ¬ (("kind" : Str) = "later") by decide +kernel, show ¬ (("_told" : Str) = "kind") by decide +kernel, show ¬ (("_told" : Str) = "tool") by decide +kernel, show ¬ (("_told" : Str) = "moment") by decide +kernel, show ¬ (("_told" : Str) = "by") by decide +kernel, show ¬ (("_told" : Str) = "is_sound") by decide +kernel, show ¬ (("_told" : Str) = "one") by decide +kernel, show ¬ (("_told" : Str) = "other") by decide +kernel, show ¬ (("_told" : Str) = "later") by decide +kernel, show ¬ (("tool" : Str) = "kind") by decide +kernel, show ¬ (("tool" : Str) = "_told") by decide +kernel, show ¬ (("tool" : Str) = "moment") by decide +kernel, show ¬ (("tool" : Str) = "by") by decide +kernel, show ¬ (("tool" : Str) = "is_sound") by decide +kernel, show ¬ (("tool" : Str) = "one") by decide +kernel, show ¬ (("tool" : Str) = "other") by decide +kernel, show ¬ (("tool" : Str) = "later") by decide +kernel, show ¬ (("moment" : Str) = "kind") by decide +kernel, show ¬ (("moment" : Str) = "_told") by decide +kernel, show ¬ (("moment" : Str) = "tool") by decide +kernel, show ¬ (("moment" : Str) = "by") by decide +kernel, show ¬ (("moment" : Str) = "is_sound") by decide +kernel, show ¬ (("moment" : Str) = "one") by decide +kernel, show ¬ (("moment" : Str) = "other") by decide +kernel, show ¬ (("moment" : Str) = "later") by decide +kernel, show ¬ (("by" : Str) = "kind") by decide +kernel, show ¬ (("by" : Str) = "_told") by decide +kernel, show ¬ (("by" : Str) = "tool") by decide +kernel, show ¬ (("by" : Str) = "moment") by decide +kernel, show ¬ (("by" : Str) = "is_sound") by decide +kernel, show ¬ (("by" : Str) = "one") by decide +kernel, show ¬ (("by" : Str) = "other") by decide +kernel, show ¬ (("by" : Str) = "later") by decide +kernel, show ¬ (("is_sound" : Str) = "kind") by decide +kernel, show ¬ (("is_sound" : Str) = "_told") by decide +kernel, show ¬ (("is_sound" : Str) = "tool") by decide +kernel, show ¬ (("is_sound" : Str) = "moment") by decide +kernel, show ¬ (("is_sound" : Str) = "by") by decide +kernel, show ¬ (("is_sound" : Str) = "one") by decide +kernel, show ¬ (("is_sound" : Str) = "other") by decide +kernel, show ¬ (("is_sound" : Str) = "later") by decide +kernel, show ¬ (("one" : Str) = "kind") by decide +kernel, show ¬ (("one" : Str) = "_told") by decide +kernel, show ¬ (("one" : Str) = "tool") by decide +kernel, show ¬ (("one" : Str) = "moment") by decide +kernel, show ¬ (("one" : Str) = "by") by decide +kernel, show ¬ (("one" : Str) = "is_sound") by decide +kernel, show ¬ (("one" : Str) = "other") by decide +kernel, show ¬ (("one" : Str) = "later") by decide +kernel, show ¬ (("other" : Str) = "kind") by decide +kernel, show ¬ (("other" : Str) = "_told") by decide +kernel, show ¬ (("other" : Str) = "tool") by decide +kernel, show ¬ (("other" : Str) = "moment") by decide +kernel, show ¬ (("other" : Str) = "by") by decide +kernel, show ¬ (("other" : Str) = "is_sound") by decide +kernel, show ¬ (("other" : Str) = "one") by decide +kernel, show ¬ (("other" : Str) = "later") by decide +kernel, show ¬ (("later" : Str) = "kind") by decide +kernel, show ¬ (("later" : Str) = "_told") by decide +kernel, show ¬ (("later" : Str) = "tool") by decide +kernel, show ¬ (("later" : Str) = "moment") by decide +kernel, show ¬ (("later" : Str) = "by") by decide +kernel, show ¬ (("later" : Str) = "is_sound") by decide +kernel, show ¬ (("later" : Str) = "one") by decide +kernel, show ¬ (("later" : Str) = "other") by decide +kernel, if_true, if_false]), fun _ h => nomatch h⟩
abbrev sTrusted : Stmt := inClass (topS 36) 0
theorem scTrusted : FnScope ["self", "tool"] ["self", "tool"] (defScope sTrusted) := ⟨rfl, rfl, rfl, by decide +kernel, rfl, by decide +kernel, by decide +kernel⟩
theorem ok_Trusted {CN CM CS C f fK : Addr} {fd fdK : FuncData} (F : Fun K "__init__" "Trusted.__init__" sTrusted f fd) (T : RowC K C ["_told", "kind", "tool"]) (FK : Fun K "checked" "checked" sChecked fK fdK) (bK : Binds K fdK ["kind", "told"] []) (gK : mg "checked" = some (.ref fK))
    (GK : FnOk P w K mg base (L2.CX P w) 4 fK fdK ["kind", "told"] (spChecked CN CM CS)) : FnOk P w K mg base (L2.CX P w) 5 f fd ["self", "tool"] (spRow CN CM CS C "trusted") := by
  refine F.okX scTrusted (fun vs H Q E h => ?_) (fun cdv A outer s H vs Q E hr h => ?_)
  · obtain ⟨x, dx, xs, rfl, _, hl, _⟩ := h
    show xs.length + 1 = 2
    have : (formsOf "trusted").length = 1 := by decide +kernel
    omega
  · obtain ⟨x, dx, xs, rfl, hx, hl, hg, qy, qn⟩ := h
    have hkin : ("trusted" : Str) ∈ kinds := by decide +kernel
    have hl4 : (formsOf "trusted").length = 1 := by decide +kernel
    obtain ⟨v0, rfl⟩ : ∃ v0, xs = [v0] := by
      rw [hl4] at hl
      match xs, hl with
      | [v0], _ => exact ⟨_, rfl⟩
    have no := T.no
    simp only [List.forall_mem_cons] at no
    obtain ⟨n0, n1, n2, _⟩ := no
    refine ⟨_, pss_cons (ps_fld (pv 0) (pe_call GK hr (by rfl) gK FK.kp bK .nil (passes_call (takes_of rfl rfl rfl rfl) (fun _ _ _ _ h => h)) (pa_cons pe_str (pa_cons (pe_tup (pa_cons (pv 1) pa_nil)) pa_nil))) rfl)
      (pss_cons (ps_fld (pv 0) pe_str rfl)
      (pss_one (ps_fld (pv 0) (pv 1) rfl))), ?_⟩
    refine ⟨_, rfl, by show 1 ≤ sizeLine; decide, fun tp htp => ?_⟩
    have s1 := same_upd0 (o := .tup [v0]) htp
    refine ⟨"trusted", tp, [v0], rfl, hkin, upd_same, hl, (fun y hy => (hg y hy).elim fun T h => ⟨T, h.same s1⟩), fun gd H2 s2 => ?_, fun C' fl v g d H' s e => qn C' fl v g d H' (s1.trans s) e⟩
    have hx2 := s2 _ _ (s1 _ _ hx)
    have s12 := s1.trans s2
    refine ⟨_, rfl, x, C, dx, [], rfl, hx2, T.cl, n0, by show 0 < 1000; decide, ?_⟩
    refine ⟨_, rfl, x, C, dx, _, rfl, upd_same, T.cl, n1, Nat.lt_of_le_of_lt (lenC (Nat.le_refl 0)) (by decide), ?_⟩
    refine ⟨_, rfl, _, rfl, x, C, dx, _, rfl, upd_same, T.cl, n2, Nat.lt_of_le_of_lt (lenC (lenC (Nat.le_refl 0))) (by decide), ?_⟩
    refine qy gd _ _ (fun c o nc e => ?_) upd_same ?_
    · rw [upd_ne nc, upd_ne nc, upd_ne nc]
      exact s12 c o e
    · have ntp : tp ≠ x := fun z => by rw [z, hx] at htp; cases htp
      have etp := s2 _ _ (show (upd H tp (.tup _)) tp = _ from upd_same)
      refine ⟨?_, ⟨tp, ?_, ?_⟩, ?_, (by repeat (first | exact NoM.nil | refine NoM.put ?_ (by decide +kernel)))⟩
      · simp only [lookup_putF, show ¬ (("kind" : Str) = "_told") by decide +kernel, show ¬ (("kind" : Str) = "tool") by decide +kernel, show ¬ (("kind" : Str) = "moment") by decide +kernel, show ¬ (("kind" : Str) = "by") by decide +kernel, show ¬ (("kind" : Str) = "is_sound") by decide +kernel, show ¬ (("kind" : Str) = "one") by decide +kernel, show ¬ (("kind" : Str) = "other") by decide +kernel, show ¬ (("kind" : Str) = "later") by decide +kernel, show ¬ (("_told" : Str) = "kind") by decide +kernel, show ¬ (("_told" : Str) = "tool") by decide +kernel, show ¬ (("_told" : Str) = "moment") by decide +kernel, show ¬ (("_told" : Str) = "by") by decide +kernel, show ¬ (("_told" : Str) = "is_sound") by decide +kernel, show ¬ (("_told" : Str) = "one") by decide +kernel, show ¬ (("_told" : Str) = "other") by decide +kernel, show ¬ (("_told" : Str) = "later") by decide +kernel, show ¬ (("tool" : Str) = "kind") by decide +kernel, show ¬ (("tool" : Str) = "_told") by decide +kernel, show ¬ (("tool" : Str) = "moment") by decide +kernel, show ¬ (("tool" : Str) = "by") by decide +kernel, show ¬ (("tool" : Str) = "is_sound") by decide +kernel, show ¬ (("tool" : Str) = "one") by decide +kernel, show ¬ (("tool" : Str) = "other") by decide +kernel, show ¬ (("tool" : Str) = "later") by decide +kernel, show ¬ (("moment" : Str) = "kind") by decide +kernel, show ¬ (("moment" : Str) = "_told") by decide +kernel, show ¬ (("moment" : Str) = "tool") by decide +kernel, show ¬ (("moment" : Str) = "by") by decide +kernel, show ¬ (("moment" : Str) = "is_sound") by decide +kernel, show ¬ (("moment" : Str) = "one") by decide +kernel, show ¬ (("moment" : Str) = "other") by decide +kernel, show ¬ (("moment" : Str) = "later") by decide +kernel, show ¬ (("by" : Str) = "kind") by decide +kernel, show ¬ (("by" : Str) = "_told") by decide +kernel, show ¬ (("by" : Str) = "tool") by decide +kernel, show ¬ (("by" : Str) = "moment") by decide +kernel, show ¬ (("by" : Str) = "is_sound") by decide +kernel, show ¬ (("by" : Str) = "one") by decide +kernel, show ¬ (("by" : Str) = "other") by decide +kernel, show ¬ (("by" : Str) = "later") by decide +kernel, show ¬ (("is_sound" : Str) = "kind") by decide +kernel, show ¬ (("is_sound" : Str) = "_told") by decide +kernel, show ¬ (("is_sound" : Str) = "tool") by decide +kernel, show ¬ (("is_sound" : Str) = "moment") by decide +kernel, show ¬ (("is_sound" : Str) = "by") by decide +kernel, show ¬ (("is_sound" : Str) = "one") by decide +kernel, show ¬ (("is_sound" : Str) = "other") by decide +kernel, show ¬ (("is_sound" : Str) = "later") by decide +kernel, show ¬ (("one" : Str) = "kind") by decide +kernel, show ¬ (("one" : Str) = "_told") by decide +kernel, show ¬ (("one" : Str) = "tool") by decide +kernel, show ¬ (("one" : Str) = "moment") by decide +kernel, show ¬ (("one" : Str) = "by") by decide +kernel, show ¬ (("one" : Str) = "is_sound") by decide +kernel, show ¬ (("one" : Str) = "other") by decide +kernel, show ¬ (("one" : Str) = "later") by decide +kernel, show ¬ (("other" : Str) = "kind") by decide +kernel, show ¬ (("other" : Str) = "_told") by decide +kernel, show ¬ (("other" : Str) = "tool") by decide +kernel, show ¬ (("other" : Str) = "moment") by decide +kernel, show ¬ (("other" : Str) = "by") by decide +kernel, show ¬ (("other" : Str) = "is_sound") by decide +kernel, show ¬ (("other" : Str) = "one") by decide +kernel, show ¬ (("other" : Str) = "later") by decide +kernel, show ¬ (("later" : Str) = "kind") by decide +kernel, show ¬ (("later" : Str) = "_told") by decide +kernel, show ¬ (("later" : Str) = "tool") by decide +kernel, show ¬ (("later" : Str) = "moment") by decide +kernel, show ¬ (("later" : Str) = "by") by decide +kernel, show ¬ (("later" : Str) = "is_sound") by decide +kernel, show ¬ (("later" : Str) = "one") by decide +kernel, show ¬ (("later" : Str) = "other") by decide +kernel, if_true, if_false]
      · simp only [lookup_putF, show ¬ (("kind" : Str) = "_told") by decide +kernel, show ¬ (("kind" : Str) = "tool") by decide +kernel, show ¬ (("kind" : Str) = "moment") by decide +kernel, show ¬ (("kind" : Str) = "by") by decide +kernel, show ¬ (("kind" : Str) = "is_sound") by decide +kernel, show ¬ (("kind" : Str) = "one") by decide +kernel, show ¬ (("kind" : Str) = "other") by decide +kernel, show ¬ (("kind" : Str) = "later") by decide +kernel, show ¬ (("_told" : Str) = "kind") by decide +kernel, show ¬ (("_told" : Str) = "tool") by decide +kernel, show ¬ (("_told" : Str) = "moment") by decide +kernel, show ¬ (("_told" : Str) = "by") by decide +kernel, show ¬ (("_told" : Str) = "is_sound") by decide +kernel, show ¬ (("_told" : Str) = "one") by decide +kernel, show ¬ (("_told" : Str) = "other") by decide +kernel, show ¬ (("_told" : Str) = "later") by decide +kernel, show ¬ (("tool" : Str) = "kind") by decide +kernel, show ¬ (("tool" : Str) = "_told") by decide +kernel, show ¬ (("tool" : Str) = "moment") by decide +kernel, show ¬ (("tool" : Str) = "by") by decide +kernel, show ¬ (("tool" : Str) = "is_sound") by decide +kernel, show ¬ (("tool" : Str) = "one") by decide +kernel, show ¬ (("tool" : Str) = "other") by decide +kernel, show ¬ (("tool" : Str) = "later") by decide +kernel, show ¬ (("moment" : Str) = "kind") by decide +kernel, show ¬ (("moment" : Str) = "_told") by decide +kernel, show ¬ (("moment" : Str) = "tool") by decide +kernel, show ¬ (("moment" : Str) = "by") by decide +kernel, show ¬ (("moment" : Str) = "is_sound") by decide +kernel, show ¬ (("moment" : Str) = "one") by decide +kernel, show ¬ (("moment" : Str) = "other") by decide +kernel, show ¬ (("moment" : Str) = "later") by decide +kernel, show ¬ (("by" : Str) = "kind") by decide +kernel, show ¬ (("by" : Str) = "_told") by decide +kernel, show ¬ (("by" : Str) = "tool") by decide +kernel, show ¬ (("by" : Str) = "moment") by decide +kernel, show ¬ (("by" : Str) = "is_sound") by decide +kernel, show ¬ (("by" : Str) = "one") by decide +kernel, show ¬ (("by" : Str) = "other") by decide +kernel, show ¬ (("by" : Str) = "later") by decide +kernel, show ¬ (("is_sound" : Str) = "kind") by decide +kernel, show ¬ (("is_sound" : Str) = "_told") by decide +kernel, show ¬ (("is_sound" : Str) = "tool") by decide +kernel, show ¬ (("is_sound" : Str) = "moment") by decide +kernel, show ¬ (("is_sound" : Str) = "by") by decide +kernel, show ¬ (("is_sound" : Str) = "one") by decide +kernel, show ¬ (("is_sound" : Str) = "other") by decide +kernel, show ¬ (("is_sound" : Str) = "later") by decide +kernel, show ¬ (("one" : Str) = "kind") by decide +kernel, show ¬ (("one" : Str) = "_told") by decide +kernel, show ¬ (("one" : Str) = "tool") by decide +kernel, show ¬ (("one" : Str) = "moment") by decide +kernel, show ¬ (("one" : Str) = "by") by decide +kernel, show ¬ (("one" : Str) = "is_sound") by decide +kernel, show ¬ (("one" : Str) = "other") by decide +kernel, show ¬ (("one" : Str) = "later") by decide +kernel, show ¬ (("other" : Str) = "kind") by decide +kernel, show ¬ (("other" : Str) = "_told") by decide +kernel, show ¬ (("other" : Str) = "tool") by decide +kernel, show ¬ (("other" : Str) = "moment") by decide +kernel, show ¬ (("other" : Str) = "by") by decide +kernel, show ¬ (("other" : Str) = "is_sound") by decide +kernel, show ¬ (("other" : Str) = "one") by decide +kernel, show ¬ (("other" : Str) = "later") by decide +kernel, show ¬ (("later" : Str) = "kind") by decide +kernel, show ¬ (("later" : Str) = "_told") by decide +kernel, show ¬ (("later" : Str) = "tool") by decide +kernel, show ¬ (("later" : Str) = "moment") by decide +kernel, show ¬ (("later" : Str) = "by") by decide +kernel, show ¬ (("later" : Str) = "is_sound") by decide +kernel, show ¬ (("later" : Str) = "one") by decide +kernel, show ¬ (("later" : Str) = "other") by decide +kernel, if_true, if_false]
      · repeat rw [upd_ne ntp]
        exact etp
      · rw [attrs_trusted]
        simp only [List.zip_cons_cons, List.zip_nil_right, List.forall_mem_cons]
        refine ⟨(by simp only [lookup_putF, show ¬ (("kind" : Str) = "_told") by decide +kernel, show ¬ (("kind" : Str) = "tool") by decide +kernel, show ¬ (("kind" : Str) = "moment") by decide +kernel, show ¬ (("kind" : Str) = "by") by decide +kernel, show ¬ (("kind" : Str) = "is_sound") by decide +kernel, show ¬ (("kind" : Str) = "one") by decide +kernel, show ¬ (("kind" : Str) = "other") by decide +kernel, show ¬ (("kind" : Str) = "later") by decide +kernel, show ¬ (("_told" : Str) = "kind") by decide +kernel, show ¬ (("_told" : Str) = "tool") by decide +kernel, show ¬ (("_told" : Str) = "moment") by decide +kernel, show ¬ (("_told" : Str) = "by") by decide +kernel, show ¬ (("_told" : Str) = "is_sound") by decide +kernel, show ¬ (("_told" : Str) = "one") by decide +kernel, show ¬ (("_told" : Str) = "other") by decide +kernel, show ¬ (("_told" : Str) = "later") by decide +kernel, show ¬ (("tool" : Str) = "kind") by decide +kernel, show ¬ (("tool" : Str) = "_told") by decide +kernel, show ¬ (("tool" : Str) = "moment") by decide +kernel, show ¬ (("tool" : Str) = "by") by decide +kernel, show ¬ (("tool" : Str) = "is_sound") by decide +kernel, show ¬ (("tool" : Str) = "one") by decide +kernel, show ¬ (("tool" : Str) = "other") by decide +kernel, show ¬ (("tool" : Str) = "later") by decide +kernel, show ¬ (("moment" : Str) = "kind") by decide +kernel, show ¬ (("moment" : Str) = "_told") by decide +kernel, show ¬ (("moment" : Str) = "tool") by decide +kernel, show ¬ (("moment" : Str) = "by") by decide +kernel, show ¬ (("moment" : Str) = "is_sound") by decide +kernel, show ¬ (("moment" : Str) = "one") by decide +kernel, show ¬ (("moment" : Str) = "other") by decide +kernel, show ¬ (("moment" : Str) = "later") by decide +kernel, show ¬ (("by" : Str) = "kind") by decide +kernel, show ¬ (("by" : Str) = "_told") by decide +kernel, show ¬ (("by" : Str) = "tool") by decide +kernel, show ¬ (("by" : Str) = "moment") by decide +kernel, show ¬ (("by" : Str) = "is_sound") by decide +kernel, show ¬ (("by" : Str) = "one") by decide +kernel, show ¬ (("by" : Str) = "other") by decide +kernel, show ¬ (("by" : Str) = "later") by decide +kernel, show ¬ (("is_sound" : Str) = "kind") by decide +kernel, show ¬ (("is_sound" : Str) = "_told") by decide +kernel, show ¬ (("is_sound" : Str) = "tool") by decide +kernel, show ¬ (("is_sound" : Str) = "moment") by decide +kernel, show ¬ (("is_sound" : Str) = "by") by decide +kernel, show ¬ (("is_sound" : Str) = "one") by decide +kernel, show ¬ (("is_sound" : Str) = "other") by decide +kernel, show ¬ (("is_sound" : Str) = "later") by decide +kernel, show ¬ (("one" : Str) = "kind") by decide +kernel, show ¬ (("one" : Str) = "_told") by decide +kernel, show ¬ (("one" : Str) = "tool") by decide +kernel, show ¬ (("one" : Str) = "moment") by decide +kernel, show ¬ (("one" : Str) = "by") by decide +kernel, show ¬ (("one" : Str) = "is_sound") by decide +kernel, show ¬ (("one" : Str) = "other") by decide +kernel, show ¬ (("one" : Str) = "later") by decide +kernel, show ¬ (("other" : Str) = "kind") by decide +kernel, show ¬ (("other" : Str) = "_told") by decide +kernel, show ¬ (("other" : Str) = "tool") by decide +kernel, show ¬ (("other" : Str) = "moment") by decide +kernel, show ¬ (("other" : Str) = "by") by decide +kernel, show ¬ (("other" : Str) = "is_sound") by decide +kernel, show ¬ (("other" : Str) = "one") by decide +kernel, show ¬ (("other" : Str) = "later") by decide +kernel, show ¬ (("later" : Str) = "kind") by decide +kernel, show ¬ (("later" : Str) = "_told") by decide +kernel, show ¬ (("later" : Str) = "tool") by decide +kernel, show ¬ (("later" : Str) = "moment") by decide +kernel, show ¬ (("later" : Str) = "by") by decide +kernel, show ¬ (("later" : Str) = "is_sound") by decide +kernel, show ¬ (("later" : Str) = "one") by decide +kernel, show ¬ (("later" : Str) = "other") by decide +kernel, if_true, if_false]), fun _ h => nomatch h⟩
abbrev sPassed : Stmt := inClass (topS 37) 0
theorem scPassed : FnScope ["self", "tool", "moment", "by"] ["self", "tool", "moment", "by"] (defScope sPassed) := ⟨rfl, rfl, rfl, by decide +kernel, rfl, by decide +kernel, by decide +kernel⟩
theorem ok_Passed {CN CM CS C f fK : Addr} {fd fdK : FuncData} (F : Fun K "__init__" "Passed.__init__" sPassed f fd) (T : RowC K C ["_told", "kind", "tool", "moment", "by"]) (FK : Fun K "checked" "checked" sChecked fK fdK) (bK : Binds K fdK ["kind", "told"] []) (gK : mg "checked" = some (.ref fK))
    (GK : FnOk P w K mg base (L2.CX P w) 4 fK fdK ["kind", "told"] (spChecked CN CM CS)) : FnOk P w K mg base (L2.CX P w) 5 f fd ["self", "tool", "moment", "by"] (spRow CN CM CS C "passed") := by
  refine F.okX scPassed (fun vs H Q E h => ?_) (fun cdv A outer s H vs Q E hr h => ?_)
  · obtain ⟨x, dx, xs, rfl, _, hl, _⟩ := h
    show xs.length + 1 = 4
    have : (formsOf "passed").length = 3 := by decide +kernel
    omega
  · obtain ⟨x, dx, xs, rfl, hx, hl, hg, qy, qn⟩ := h
    have hkin : ("passed" : Str) ∈ kinds := by decide +kernel
    have hl4 : (formsOf "passed").length = 3 := by decide +kernel
    obtain ⟨v0, v1, v2, rfl⟩ : ∃ v0 v1 v2, xs = [v0, v1, v2] := by
      rw [hl4] at hl
      match xs, hl with
      | [v0, v1, v2], _ => exact ⟨_, _, _, rfl⟩
    have no := T.no
    simp only [List.forall_mem_cons] at no
    obtain ⟨n0, n1, n2, n3, n4, _⟩ := no
    refine ⟨_, pss_cons (ps_fld (pv 0) (pe_call GK hr (by rfl) gK FK.kp bK .nil (passes_call (takes_of rfl rfl rfl rfl) (fun _ _ _ _ h => h)) (pa_cons pe_str (pa_cons (pe_tup (pa_cons (pv 1) (pa_cons (pv 2) (pa_cons (pv 3) pa_nil)))) pa_nil))) rfl)
      (pss_cons (ps_fld (pv 0) pe_str rfl)
      (pss_cons (ps_fld (pv 0) (pv 1) rfl) (pss_cons (ps_fld (pv 0) (pv 2) rfl) (pss_one (ps_fld (pv 0) (pv 3) rfl))))), ?_⟩
    refine ⟨_, rfl, _, rfl, _, rfl, by show 3 ≤ sizeLine; decide, fun tp htp => ?_⟩
    have s1 := same_upd0 (o := .tup [v0, v1, v2]) htp
    refine ⟨"passed", tp, [v0, v1, v2], rfl, hkin, upd_same, hl, (fun y hy => (hg y hy).elim fun T h => ⟨T, h.same s1⟩), fun gd H2 s2 => ?_, fun C' fl v g d H' s e => qn C' fl v g d H' (s1.trans s) e⟩
    have hx2 := s2 _ _ (s1 _ _ hx)
    have s12 := s1.trans s2
    refine ⟨_, rfl, x, C, dx, [], rfl, hx2, T.cl, n0, by show 0 < 1000; decide, ?_⟩
    refine ⟨_, rfl, x, C, dx, _, rfl, upd_same, T.cl, n1, Nat.lt_of_le_of_lt (lenC (Nat.le_refl 0)) (by decide), ?_⟩
    refine ⟨_, rfl, _, rfl, x, C, dx, _, rfl, upd_same, T.cl, n2, Nat.lt_of_le_of_lt (lenC (lenC (Nat.le_refl 0))) (by decide), ?_⟩
    refine ⟨_, rfl, _, rfl, x, C, dx, _, rfl, upd_same, T.cl, n3, Nat.lt_of_le_of_lt (lenC (lenC (lenC (Nat.le_refl 0)))) (by decide), ?_⟩
    refine ⟨_, rfl, _, rfl, x, C, dx, _, rfl, upd_same, T.cl, n4, Nat.lt_of_le_of_lt (lenC (lenC (lenC (lenC (Nat.le_refl 0))))) (by decide), ?_⟩
    refine qy gd _ _ (fun c o nc e => ?_) upd_same ?_
    · rw [upd_ne nc, upd_ne nc, upd_ne nc, upd_ne nc, upd_ne nc]
      exact s12 c o e
    · have ntp : tp ≠ x := fun z => by rw [z, hx] at htp; cases htp
      have etp := s2 _ _ (show (upd H tp (.tup _)) tp = _ from upd_same)
      refine ⟨?_, ⟨tp, ?_, ?_⟩, ?_, (by repeat (first | exact NoM.nil | refine NoM.put ?_ (by decide +kernel)))⟩
      · simp only [lookup_putF, show ¬ (("kind" : Str) = "_told") by decide +kernel, show ¬ (("kind" : Str) = "tool") by decide +kernel, show ¬ (("kind" : Str) = "moment") by decide +kernel, show ¬ (("kind" : Str) = "by") by decide +kernel, show ¬ (("kind" : Str) = "is_sound") by decide +kernel, show ¬ (("kind" : Str) = "one") by decide +kernel, show ¬ (("kind" : Str) = "other") by decide +kernel, show ¬ (("kind" : Str) = "later") by decide +kernel, show ¬ (("_told" : Str) = "kind") by decide +kernel, show ¬ (("_told" : Str) = "tool") by decide +kernel, show ¬ (("_told" : Str) = "moment") by decide +kernel, show ¬ (("_told" : Str) = "by") by decide +kernel, show ¬ (("_told" : Str) = "is_sound") by decide +kernel, show ¬ (("_told" : Str) = "one") by decide +kernel, show ¬ (("_told" : Str) = "other") by decide +kernel, show ¬ (("_told" : Str) = "later") by decide +kernel, show ¬ (("tool" : Str) = "kind") by decide +kernel, show ¬ (("tool" : Str) = "_told") by decide +kernel, show ¬ (("tool" : Str) = "moment") by decide +kernel, show ¬ (("tool" : Str) = "by") by decide +kernel, show ¬ (("tool" : Str) = "is_sound") by decide +kernel, show ¬ (("tool" : Str) = "one") by decide +kernel, show ¬ (("tool" : Str) = "other") by decide +kernel, show ¬ (("tool" : Str) = "later") by decide +kernel, show ¬ (("moment" : Str) = "kind") by decide +kernel, show ¬ (("moment" : Str) = "_told") by decide +kernel, show ¬ (("moment" : Str) = "tool") by decide +kernel, show ¬ (("moment" : Str) = "by") by decide +kernel, show ¬ (("moment" : Str) = "is_sound") by decide +kernel, show ¬ (("moment" : Str) = "one") by decide +kernel, show ¬ (("moment" : Str) = "other") by decide +kernel, show ¬ (("moment" : Str) = "later") by decide +kernel, show ¬ (("by" : Str) = "kind") by decide +kernel, show ¬ (("by" : Str) = "_told") by decide +kernel, show ¬ (("by" : Str) = "tool") by decide +kernel, show ¬ (("by" : Str) = "moment") by decide +kernel, show ¬ (("by" : Str) = "is_sound") by decide +kernel, show ¬ (("by" : Str) = "one") by decide +kernel, show ¬ (("by" : Str) = "other") by decide +kernel, show ¬ (("by" : Str) = "later") by decide +kernel, show ¬ (("is_sound" : Str) = "kind") by decide +kernel, show ¬ (("is_sound" : Str) = "_told") by decide +kernel, show ¬ (("is_sound" : Str) = "tool") by decide +kernel, show ¬ (("is_sound" : Str) = "moment") by decide +kernel, show ¬ (("is_sound" : Str) = "by") by decide +kernel, show ¬ (("is_sound" : Str) = "one") by decide +kernel, show ¬ (("is_sound" : Str) = "other") by decide +kernel, show ¬ (("is_sound" : Str) = "later") by decide +kernel, show ¬ (("one" : Str) = "kind") by decide +kernel, show ¬ (("one" : Str) = "_told") by decide +kernel, show ¬ (("one" : Str) = "tool") by decide +kernel, show ¬ (("one" : Str) = "moment") by decide +kernel, show ¬ (("one" : Str) = "by") by decide +kernel, show ¬ (("one" : Str) = "is_sound") by decide +kernel, show ¬ (("one" : Str) = "other") by decide +kernel, show ¬ (("one" : Str) = "later") by decide +kernel, show ¬ (("other" : Str) = "kind") by decide +kernel, show ¬ (("other" : Str) = "_told") by decide +kernel, show ¬ (("other" : Str) = "tool") by decide +kernel, show ¬ (("other" : Str) = "moment") by decide +kernel, show ¬ (("other" : Str) = "by") by decide +kernel, show ¬ (("other" : Str) = "is_sound") by decide +kernel, show ¬ (("other" : Str) = "one") by decide +kernel, show ¬ (("other" : Str) = "later") by decide +kernel, show ¬ (("later" : Str) = "kind") by decide +kernel, show ¬ (("later" : Str) = "_told") by decide +kernel, show ¬ (("later" : Str) = "tool") by decide +kernel, show ¬ (("later" : Str) = "moment") by decide +kernel, show ¬ (("later" : Str) = "by") by decide +kernel, show ¬ (("later" : Str) = "is_sound") by decide +kernel, show ¬ (("later" : Str) = "one") by decide +kernel, show ¬ (("later" : Str) = "other") by decide +kernel, if_true, if_false]
      · simp only [lookup_putF, show ¬ (("kind" : Str) = "_told") by decide +kernel, show ¬ (("kind" : Str) = "tool") by decide +kernel, show ¬ (("kind" : Str) = "moment") by decide +kernel, show ¬ (("kind" : Str) = "by") by decide +kernel, show ¬ (("kind" : Str) = "is_sound") by decide +kernel, show ¬ (("kind" : Str) = "one") by decide +kernel, show ¬ (("kind" : Str) = "other") by decide +kernel, show ¬ (("kind" : Str) = "later") by decide +kernel, show ¬ (("_told" : Str) = "kind") by decide +kernel, show ¬ (("_told" : Str) = "tool") by decide +kernel, show ¬ (("_told" : Str) = "moment") by decide +kernel, show ¬ (("_told" : Str) = "by") by decide +kernel, show ¬ (("_told" : Str) = "is_sound") by decide +kernel, show ¬ (("_told" : Str) = "one") by decide +kernel, show ¬ (("_told" : Str) = "other") by decide +kernel, show ¬ (("_told" : Str) = "later") by decide +kernel, show ¬ (("tool" : Str) = "kind") by decide +kernel, show ¬ (("tool" : Str) = "_told") by decide +kernel, show ¬ (("tool" : Str) = "moment") by decide +kernel, show ¬ (("tool" : Str) = "by") by decide +kernel, show ¬ (("tool" : Str) = "is_sound") by decide +kernel, show ¬ (("tool" : Str) = "one") by decide +kernel, show ¬ (("tool" : Str) = "other") by decide +kernel, show ¬ (("tool" : Str) = "later") by decide +kernel, show ¬ (("moment" : Str) = "kind") by decide +kernel, show ¬ (("moment" : Str) = "_told") by decide +kernel, show ¬ (("moment" : Str) = "tool") by decide +kernel, show ¬ (("moment" : Str) = "by") by decide +kernel, show ¬ (("moment" : Str) = "is_sound") by decide +kernel, show ¬ (("moment" : Str) = "one") by decide +kernel, show ¬ (("moment" : Str) = "other") by decide +kernel, show ¬ (("moment" : Str) = "later") by decide +kernel, show ¬ (("by" : Str) = "kind") by decide +kernel, show ¬ (("by" : Str) = "_told") by decide +kernel, show ¬ (("by" : Str) = "tool") by decide +kernel, show ¬ (("by" : Str) = "moment") by decide +kernel, show ¬ (("by" : Str) = "is_sound") by decide +kernel, show ¬ (("by" : Str) = "one") by decide +kernel, show ¬ (("by" : Str) = "other") by decide +kernel, show ¬ (("by" : Str) = "later") by decide +kernel, show ¬ (("is_sound" : Str) = "kind") by decide +kernel, show ¬ (("is_sound" : Str) = "_told") by decide +kernel, show ¬ (("is_sound" : Str) = "tool") by decide +kernel, show ¬ (("is_sound" : Str) = "moment") by decide +kernel, show ¬ (("is_sound" : Str) = "by") by decide +kernel, show ¬ (("is_sound" : Str) = "one") by decide +kernel, show ¬ (("is_sound" : Str) = "other") by decide +kernel, show ¬ (("is_sound" : Str) = "later") by decide +kernel, show ¬ (("one" : Str) = "kind") by decide +kernel, show ¬ (("one" : Str) = "_told") by decide +kernel, show ¬ (("one" : Str) = "tool") by decide +kernel, show ¬ (("one" : Str) = "moment") by decide +kernel, show ¬ (("one" : Str) = "by") by decide +kernel, show ¬ (("one" : Str) = "is_sound") by decide +kernel, show ¬ (("one" : Str) = "other") by decide +kernel, show ¬ (("one" : Str) = "later") by decide +kernel, show ¬ (("other" : Str) = "kind") by decide +kernel, show ¬ (("other" : Str) = "_told") by decide +kernel, show ¬ (("other" : Str) = "tool") by decide +kernel, show ¬ (("other" : Str) = "moment") by decide +kernel, show ¬ (("other" : Str) = "by") by decide +kernel, show ¬ (("other" : Str) = "is_sound") by decide +kernel, show ¬ (("other" : Str) = "one") by decide +kernel, show ¬ (("other" : Str) = "later") by decide +kernel, show ¬ (("later" : Str) = "kind") by decide +kernel, show ¬ (("later" : Str) = "_told") by decide +kernel, show ¬ (("later" : Str) = "tool") by decide +kernel, show ¬ (("later" : Str) = "moment") by decide +kernel, show ¬ (("later" : Str) = "by") by decide +kernel, show ¬ (("later" : Str) = "is_sound") by decide +kernel, show ¬ (("later" : Str) = "one") by decide +kernel, show ¬ (("later" : Str) = "other") by decide +kernel, if_true, if_false]
      · repeat rw [upd_ne ntp]
        exact etp
      · rw [attrs_passed]
        simp only [List.zip_cons_cons, List.zip_nil_right, List.forall_mem_cons]
        refine ⟨(by simp only [lookup_putF, show ¬ (("kind" : Str) = "_told") by decide +kernel, show ¬ (("kind" : Str) = "tool") by decide +kernel, show ¬ (("kind" : Str) = "moment") by decide +kernel, show ¬ (("kind" : Str) = "by") by decide +kernel, show ¬ (("kind" : Str) = "is_sound") by decide +kernel, show ¬ (("kind" : Str) = "one") by decide +kernel, show ¬ (("kind" : Str) = "other") by decide +kernel, show ¬ (("kind" : Str) = "later") by decide +kernel, show ¬ (("_told" : Str) = "kind") by decide +kernel, show ¬ (("_told" : Str) = "tool") by decide +kernel, show ¬ (("_told" : Str) = "moment") by decide +kernel, show ¬ (("_told" : Str) = "by") by decide +kernel, show ¬ (("_told" : Str) = "is_sound") by decide +kernel, show ¬ (("_told" : Str) = "one") by decide +kernel, show ¬ (("_told" : Str) = "other") by decide +kernel, show ¬ (("_told" : Str) = "later") by decide +kernel, show ¬ (("tool" : Str) = "kind") by decide +kernel, show ¬ (("tool" : Str) = "_told") by decide +kernel, show ¬ (("tool" : Str) = "moment") by decide +kernel, show ¬ (("tool" : Str) = "by") by decide +kernel, show ¬ (("tool" : Str) = "is_sound") by decide +kernel, show ¬ (("tool" : Str) = "one") by decide +kernel, show ¬ (("tool" : Str) = "other") by decide +kernel, show ¬ (("tool" : Str) = "later") by decide +kernel, show ¬ (("moment" : Str) = "kind") by decide +kernel, show ¬ (("moment" : Str) = "_told") by decide +kernel, show ¬ (("moment" : Str) = "tool") by decide +kernel, show ¬ (("moment" : Str) = "by") by decide +kernel, show ¬ (("moment" : Str) = "is_sound") by decide +kernel, show ¬ (("moment" : Str) = "one") by decide +kernel, show ¬ (("moment" : Str) = "other") by decide +kernel, show ¬ (("moment" : Str) = "later") by decide +kernel, show ¬ (("by" : Str) = "kind") by decide +kernel, show ¬ (("by" : Str) = "_told") by decide +kernel, show ¬ (("by" : Str) = "tool") by decide +kernel, show ¬ (("by" : Str) = "moment") by decide +kernel, show ¬ (("by" : Str) = "is_sound") by decide +kernel, show ¬ (("by" : Str) = "one") by decide +kernel, show ¬ (("by" : Str) = "other") by decide +kernel, show ¬ (("by" : Str) = "later") by decide +kernel, show ¬ (("is_sound" : Str) = "kind") by decide +kernel, show ¬ (("is_sound" : Str) = "_told") by decide +kernel, show ¬ (("is_sound" : Str) = "tool") by decide +kernel, show ¬ (("is_sound" : Str) = "moment") by decide +kernel, show ¬ (("is_sound" : Str) = "by") by decide +kernel, show ¬ (("is_sound" : Str) = "one") by decide +kernel, show ¬ (("is_sound" : Str) = "other") by decide +kernel, show ¬ (("is_sound" : Str) = "later") by decide +kernel, show ¬ (("one" : Str) = "kind") by decide +kernel, show ¬ (("one" : Str) = "_told") by decide +kernel, show ¬ (("one" : Str) = "tool") by decide +kernel, show ¬ (("one" : Str) = "moment") by decide +kernel, show ¬ (("one" : Str) = "by") by decide +kernel, show ¬ (("one" : Str) = "is_sound") by decide +kernel, show ¬ (("one" : Str) = "other") by decide +kernel, show ¬ (("one" : Str) = "later") by decide +kernel, show ¬ (("other" : Str) = "kind") by decide +kernel, show ¬ (("other" : Str) = "_told") by decide +kernel, show ¬ (("other" : Str) = "tool") by decide +kernel, show ¬ (("other" : Str) = "moment") by decide +kernel, show ¬ (("other" : Str) = "by") by decide +kernel, show ¬ (("other" : Str) = "is_sound") by decide +kernel, show ¬ (("other" : Str) = "one") by decide +kernel, show ¬ (("other" : Str) = "later") by decide +kernel, show ¬ (("later" : Str) = "kind") by decide +kernel, show ¬ (("later" : Str) = "_told") by decide +kernel, show ¬ (("later" : Str) = "tool") by decide +kernel, show ¬ (("later" : Str) = "moment") by decide +kernel, show ¬ (("later" : Str) = "by") by decide +kernel, show ¬ (("later" : Str) = "is_sound") by decide +kernel, show ¬ (("later" : Str) = "one") by decide +kernel, show ¬ (("later" : Str) = "other") by decide +kernel, if_true, if_false]), (by simp only [lookup_putF, show ¬ (("kind" : Str) = "_told") by decide +kernel, show ¬ (("kind" : Str) = "tool") by decide +kernel, show ¬ (("kind" : Str) = "moment") by decide +kernel, show ¬ (("kind" : Str) = "by") by decide +kernel, show ¬ (("kind" : Str) = "is_sound") by decide +kernel, show ¬ (("kind" : Str) = "one") by decide +kernel, show ¬ (("kind" : Str) = "other") by decide +kernel, show ¬ (("kind" : Str) = "later") by decide +kernel, show ¬ (("_told" : Str) = "kind") by decide +kernel, show ¬ (("_told" : Str) = "tool") by decide +kernel, show ¬ (("_told" : Str) = "moment") by decide +kernel, show ¬ (("_told" : Str) = "by") by decide +kernel, show ¬ (("_told" : Str) = "is_sound") by decide +kernel, show ¬ (("_told" : Str) = "one") by decide +kernel, show ¬ (("_told" : Str) = "other") by decide +kernel, show ¬ (("_told" : Str) = "later") by decide +kernel, show ¬ (("tool" : Str) = "kind") by decide +kernel, show ¬ (("tool" : Str) = "_told") by decide +kernel, show ¬ (("tool" : Str) = "moment") by decide +kernel, show ¬ (("tool" : Str) = "by") by decide +kernel, show ¬ (("tool" : Str) = "is_sound") by decide +kernel, show ¬ (("tool" : Str) = "one") by decide +kernel, show ¬ (("tool" : Str) = "other") by decide +kernel, show ¬ (("tool" : Str) = "later") by decide +kernel, show ¬ (("moment" : Str) = "kind") by decide +kernel, show ¬ (("moment" : Str) = "_told") by decide +kernel, show ¬ (("moment" : Str) = "tool") by decide +kernel, show ¬ (("moment" : Str) = "by") by decide +kernel, show ¬ (("moment" : Str) = "is_sound") by decide +kernel, show ¬ (("moment" : Str) = "one") by decide +kernel, show ¬ (("moment" : Str) = "other") by decide +kernel, show ¬ (("moment" : Str) = "later") by decide +kernel, show ¬ (("by" : Str) = "kind") by decide +kernel, show ¬ (("by" : Str) = "_told") by decide +kernel, show ¬ (("by" : Str) = "tool") by decide +kernel, show ¬ (("by" : Str) = "moment") by decide +kernel, show ¬ (("by" : Str) = "is_sound") by decide +kernel, show ¬ (("by" : Str) = "one") by decide +kernel, show ¬ (("by" : Str) = "other") by decide +kernel, show ¬ (("by" : Str) = "later") by decide +kernel, show ¬ (("is_sound" : Str) = "kind") by decide +kernel, show ¬ (("is_sound" : Str) = "_told") by decide +kernel, show ¬ (("is_sound" : Str) = "tool") by decide +kernel, show ¬ (("is_sound" : Str) = "moment") by decide +kernel, show ¬ (("is_sound" : Str) = "by") by decide +kernel, show ¬ (("is_sound" : Str) = "one") by decide +kernel, show ¬ (("is_sound" : Str) = "other") by decide +kernel, show ¬ (("is_sound" : Str) = "later") by decide +kernel, show ¬ (("one" : Str) = "kind") by decide +kernel, show ¬ (("one" : Str) = "_told") by decide +kernel, show ¬ (("one" : Str) = "tool") by decide +kernel, show ¬ (("one" : Str) = "moment") by decide +kernel, show ¬ (("one" : Str) = "by") by decide +kernel, show ¬ (("one" : Str) = "is_sound") by decide +kernel, show ¬ (("one" : Str) = "other") by decide +kernel, show ¬ (("one" : Str) = "later") by decide +kernel, show ¬ (("other" : Str) = "kind") by decide +kernel, show ¬ (("other" : Str) = "_told") by decide +kernel, show ¬ (("other" : Str) = "tool") by decide +kernel, show ¬ (("other" : Str) = "moment") by decide +kernel, show ¬ (("other" : Str) = "by") by decide +kernel, show ¬ (("other" : Str) = "is_sound") by decide +kernel, show ¬ (("other" : Str) = "one") by decide +kernel, show ¬ (("other" : Str) = "later") by decide +kernel, show ¬ (("later" : Str) = "kind") by decide +kernel, show ¬ (("later" : Str) = "_told") by decide +kernel, show ¬ (("later" : Str) = "tool") by decide +kernel, show ¬ (("later" : Str) = "moment") by decide +kernel, show ¬ (("later" : Str) = "by") by decide +kernel, show ¬ (("later" : Str) = "is_sound") by decide +kernel, show ¬ (("later" : Str) = "one") by decide +kernel, show ¬ (("later" : Str) = "other") by decide +kernel, if_true, if_false]), (by simp only [lookup_putF, show ¬ (("kind" : Str) = "_told") by decide +kernel, show ¬ (("kind" : Str) = "tool") by decide +kernel, show ¬ (("kind" : Str) = "moment") by decide +kernel, show ¬ (("kind" : Str) = "by") by decide +kernel, show ¬ (("kind" : Str) = "is_sound") by decide +kernel, show ¬ (("kind" : Str) = "one") by decide +kernel, show ¬ (("kind" : Str) = "other") by decide +kernel, show ¬ (("kind" : Str) = "later") by decide +kernel, show ¬ (("_told" : Str) = "kind") by decide +kernel, show ¬ (("_told" : Str) = "tool") by decide +kernel, show ¬ (("_told" : Str) = "moment") by decide +kernel, show ¬ (("_told" : Str) = "by") by decide +kernel, show ¬ (("_told" : Str) = "is_sound") by decide +kernel, show ¬ (("_told" : Str) = "one") by decide +kernel, show ¬ (("_told" : Str) = "other") by decide +kernel, show ¬ (("_told" : Str) = "later") by decide +kernel, show ¬ (("tool" : Str) = "kind") by decide +kernel, show ¬ (("tool" : Str) = "_told") by decide +kernel, show ¬ (("tool" : Str) = "moment") by decide +kernel, show ¬ (("tool" : Str) = "by") by decide +kernel, show ¬ (("tool" : Str) = "is_sound") by decide +kernel, show ¬ (("tool" : Str) = "one") by decide +kernel, show ¬ (("tool" : Str) = "other") by decide +kernel, show ¬ (("tool" : Str) = "later") by decide +kernel, show ¬ (("moment" : Str) = "kind") by decide +kernel, show ¬ (("moment" : Str) = "_told") by decide +kernel, show ¬ (("moment" : Str) = "tool") by decide +kernel, show ¬ (("moment" : Str) = "by") by decide +kernel, show ¬ (("moment" : Str) = "is_sound") by decide +kernel, show ¬ (("moment" : Str) = "one") by decide +kernel, show ¬ (("moment" : Str) = "other") by decide +kernel, show ¬ (("moment" : Str) = "later") by decide +kernel, show ¬ (("by" : Str) = "kind") by decide +kernel, show ¬ (("by" : Str) = "_told") by decide +kernel, show ¬ (("by" : Str) = "tool") by decide +kernel, show ¬ (("by" : Str) = "moment") by decide +kernel, show ¬ (("by" : Str) = "is_sound") by decide +kernel, show ¬ (("by" : Str) = "one") by decide +kernel, show ¬ (("by" : Str) = "other") by decide +kernel, show ¬ (("by" : Str) = "later") by decide +kernel, show ¬ (("is_sound" : Str) = "kind") by decide +kernel, show ¬ (("is_sound" : Str) = "_told") by decide +kernel, show ¬ (("is_sound" : Str) = "tool") by decide +kernel, show ¬ (("is_sound" : Str) = "moment") by decide +kernel, show ¬ (("is_sound" : Str) = "by") by decide +kernel, show ¬ (("is_sound" : Str) = "one") by decide +kernel, show ¬ (("is_sound" : Str) = "other") by decide +kernel, show ¬ (("is_sound" : Str) = "later") by decide +kernel, show ¬ (("one" : Str) = "kind") by decide +kernel, show ¬ (("one" : Str) = "_told") by decide +kernel, show ¬ (("one" : Str) = "tool") by decide +kernel, show ¬ (("one" : Str) = "moment") by decide +kernel, show ¬ (("one" : Str) = "by") by decide +kernel, show ¬ (("one" : Str) = "is_sound") by decide +kernel, show ¬ (("one" : Str) = "other") by decide +kernel, show ¬ (("one" : Str) = "later") by decide +kernel, show ¬ (("other" : Str) = "kind") by decide +kernel, show ¬ (("other" : Str) = "_told") by decide +kernel, show ¬ (("other" : Str) = "tool") by decide +kernel, show ¬ (("other" : Str) = "moment") by decide +kernel, show ¬ (("other" : Str) = "by") by decide +kernel, show ¬ (("other" : Str) = "is_sound") by decide +kernel, show ¬ (("other" : Str) = "one") by decide +kernel, show ¬ (("other" : Str) = "later") by decide +kernel, show ¬ (("later" : Str) = "kind") by decide +kernel, show ¬ (("later" : Str) = "_told") by decide +kernel, show ¬ (("later" : Str) = "tool") by decide +kernel, show ¬ (("later" : Str) = "moment") by decide +kernel, show ¬ (("later" : Str) = "by") by decide +kernel, show ¬ (("later" : Str) = "is_sound") by decide +kernel, show ¬ (("later" : Str) = "one") by decide +kernel, show ¬ (("later" : Str) = "other") by decide +kernel, if_true, if_false]), fun _ h => nomatch h⟩
abbrev sFailed : Stmt := inClass (topS 38) 0
theorem scFailed : FnScope ["self", "tool", "moment", "by"] ["self", "tool", "moment", "by"] (defScope sFailed) := ⟨rfl, rfl, rfl, by decide +kernel, rfl, by decide +kernel, by decide +kernel⟩
theorem ok_Failed {CN CM CS C f fK : Addr} {fd fdK : FuncData} (F : Fun K "__init__" "Failed.__init__" sFailed f fd) (T : RowC K C ["_told", "kind", "tool", "moment", "by"]) (FK : Fun K "checked" "checked" sChecked fK fdK) (bK : Binds K fdK ["kind", "told"] []) (gK : mg "checked" = some (.ref fK))
    (GK : FnOk P w K mg base (L2.CX P w) 4 fK fdK ["kind", "told"] (spChecked CN CM CS)) : FnOk P w K mg base (L2.CX P w) 5 f fd ["self", "tool", "moment", "by"] (spRow CN CM CS C "failed") := by
  refine F.okX scFailed (fun vs H Q E h => ?_) (fun cdv A outer s H vs Q E hr h => ?_)
  · obtain ⟨x, dx, xs, rfl, _, hl, _⟩ := h
    show xs.length + 1 = 4
    have : (formsOf "failed").length = 3 := by decide +kernel
    omega
  · obtain ⟨x, dx, xs, rfl, hx, hl, hg, qy, qn⟩ := h
    have hkin : ("failed" : Str) ∈ kinds := by decide +kernel
    have hl4 : (formsOf "failed").length = 3 := by decide +kernel
    obtain ⟨v0, v1, v2, rfl⟩ : ∃ v0 v1 v2, xs = [v0, v1, v2] := by
      rw [hl4] at hl
      match xs, hl with
      | [v0, v1, v2], _ => exact ⟨_, _, _, rfl⟩
    have no := T.no
    simp only [List.forall_mem_cons] at no
    obtain ⟨n0, n1, n2, n3, n4, _⟩ := no
    refine ⟨_, pss_cons (ps_fld (pv 0) (pe_call GK hr (by rfl) gK FK.kp bK .nil (passes_call (takes_of rfl rfl rfl rfl) (fun _ _ _ _ h => h)) (pa_cons pe_str (pa_cons (pe_tup (pa_cons (pv 1) (pa_cons (pv 2) (pa_cons (pv 3) pa_nil)))) pa_nil))) rfl)
      (pss_cons (ps_fld (pv 0) pe_str rfl)
      (pss_cons (ps_fld (pv 0) (pv 1) rfl) (pss_cons (ps_fld (pv 0) (pv 2) rfl) (pss_one (ps_fld (pv 0) (pv 3) rfl))))), ?_⟩
    refine ⟨_, rfl, _, rfl, _, rfl, by show 3 ≤ sizeLine; decide, fun tp htp => ?_⟩
    have s1 := same_upd0 (o := .tup [v0, v1, v2]) htp
    refine ⟨"failed", tp, [v0, v1, v2], rfl, hkin, upd_same, hl, (fun y hy => (hg y hy).elim fun T h => ⟨T, h.same s1⟩), fun gd H2 s2 => ?_, fun C' fl v g d H' s e => qn C' fl v g d H' (s1.trans s) e⟩
    have hx2 := s2 _ _ (s1 _ _ hx)
    have s12 := s1.trans s2
    refine ⟨_, rfl, x, C, dx, [], rfl, hx2, T.cl, n0, by show 0 < 1000; decide, ?_⟩
    refine ⟨_, rfl, x, C, dx, _, rfl, upd_same, T.cl, n1, Nat.lt_of_le_of_lt (lenC (Nat.le_refl 0)) (by decide), ?_⟩
    refine ⟨_, rfl, _, rfl, x, C, dx, _, rfl, upd_same, T.cl, n2, Nat.lt_of_le_of_lt (lenC (lenC (Nat.le_refl 0))) (by decide), ?_⟩
    refine ⟨_, rfl, _, rfl, x, C, dx, _, rfl, upd_same, T.cl, n3, Nat.lt_of_le_of_lt (lenC (lenC (lenC (Nat.le_refl 0)))) (by decide), ?_⟩
    refine ⟨_, rfl, _, rfl, x, C, dx, _, rfl, upd_same, T.cl, n4, Nat.lt_of_le_of_lt (lenC (lenC (lenC (lenC (Nat.le_refl 0))))) (by decide), ?_⟩
    refine qy gd _ _ (fun c o nc e => ?_) upd_same ?_
    · rw [upd_ne nc, upd_ne nc, upd_ne nc, upd_ne nc, upd_ne nc]
      exact s12 c o e
    · have ntp : tp ≠ x := fun z => by rw [z, hx] at htp; cases htp
      have etp := s2 _ _ (show (upd H tp (.tup _)) tp = _ from upd_same)
      refine ⟨?_, ⟨tp, ?_, ?_⟩, ?_, (by repeat (first | exact NoM.nil | refine NoM.put ?_ (by decide +kernel)))⟩
      · simp only [lookup_putF, show ¬ (("kind" : Str) = "_told") by decide +kernel, show ¬ (("kind" : Str) = "tool") by decide +kernel, show ¬ (("kind" : Str) = "moment") by decide +kernel, show ¬ (("kind" : Str) = "by") by decide +kernel, show ¬ (("kind" : Str) = "is_sound") by decide +kernel, show ¬ (("kind" : Str) = "one") by decide +kernel, show ¬ (("kind" : Str) = "other") by decide +kernel, show ¬ (("kind" : Str) = "later") by decide +kernel, show ¬ (("_told" : Str) = "kind") by decide +kernel, show ¬ (("_told" : Str) = "tool") by decide +kernel, show ¬ (("_told" : Str) = "moment") by decide +kernel, show ¬ (("_told" : Str) = "by") by decide +kernel, show ¬ (("_told" : Str) = "is_sound") by decide +kernel, show ¬ (("_told" : Str) = "one") by decide +kernel, show ¬ (("_told" : Str) = "other") by decide +kernel, show ¬ (("_told" : Str) = "later") by decide +kernel, show ¬ (("tool" : Str) = "kind") by decide +kernel, show ¬ (("tool" : Str) = "_told") by decide +kernel, show ¬ (("tool" : Str) = "moment") by decide +kernel, show ¬ (("tool" : Str) = "by") by decide +kernel, show ¬ (("tool" : Str) = "is_sound") by decide +kernel, show ¬ (("tool" : Str) = "one") by decide +kernel, show ¬ (("tool" : Str) = "other") by decide +kernel, show ¬ (("tool" : Str) = "later") by decide +kernel, show ¬ (("moment" : Str) = "kind") by decide +kernel, show ¬ (("moment" : Str) = "_told") by decide +kernel, show ¬ (("moment" : Str) = "tool") by decide +kernel, show ¬ (("moment" : Str) = "by") by decide +kernel, show ¬ (("moment" : Str) = "is_sound") by decide +kernel, show ¬ (("moment" : Str) = "one") by decide +kernel, show ¬ (("moment" : Str) = "other") by decide +kernel, show ¬ (("moment" : Str) = "later") by decide +kernel, show ¬ (("by" : Str) = "kind") by decide +kernel, show ¬ (("by" : Str) = "_told") by decide +kernel, show ¬ (("by" : Str) = "tool") by decide +kernel, show ¬ (("by" : Str) = "moment") by decide +kernel, show ¬ (("by" : Str) = "is_sound") by decide +kernel, show ¬ (("by" : Str) = "one") by decide +kernel, show ¬ (("by" : Str) = "other") by decide +kernel, show ¬ (("by" : Str) = "later") by decide +kernel, show ¬ (("is_sound" : Str) = "kind") by decide +kernel, show ¬ (("is_sound" : Str) = "_told") by decide +kernel, show ¬ (("is_sound" : Str) = "tool") by decide +kernel, show ¬ (("is_sound" : Str) = "moment") by decide +kernel, show ¬ (("is_sound" : Str) = "by") by decide +kernel, show ¬ (("is_sound" : Str) = "one") by decide +kernel, show ¬ (("is_sound" : Str) = "other") by decide +kernel, show ¬ (("is_sound" : Str) = "later") by decide +kernel, show ¬ (("one" : Str) = "kind") by decide +kernel, show ¬ (("one" : Str) = "_told") by decide +kernel, show ¬ (("one" : Str) = "tool") by decide +kernel, show ¬ (("one" : Str) = "moment") by decide +kernel, show ¬ (("one" : Str) = "by") by decide +kernel, show ¬ (("one" : Str) = "is_sound") by decide +kernel, show ¬ (("one" : Str) = "other") by decide +kernel, show ¬ (("one" : Str) = "later") by decide +kernel, show ¬ (("other" : Str) = "kind") by decide +kernel, show ¬ (("other" : Str) = "_told") by decide +kernel, show ¬ (("other" : Str) = "tool") by decide +kernel, show ¬ (("other" : Str) = "moment") by decide +kernel, show ¬ (("other" : Str) = "by") by decide +kernel, show ¬ (("other" : Str) = "is_sound") by decide +kernel, show ¬ (("other" : Str) = "one") by decide +kernel, show ¬ (("other" : Str) = "later") by decide +kernel, show ¬ (("later" : Str) = "kind") by decide +kernel, show ¬ (("later" : Str) = "_told") by decide +kernel, show ¬ (("later" : Str) = "tool") by decide +kernel, show ¬ (("later" : Str) = "moment") by decide +kernel, show ¬ (("later" : Str) = "by") by decide +kernel, show ¬ (("later" : Str) = "is_sound") by decide +kernel, show ¬ (("later" : Str) = "one") by decide +kernel, show ¬ (("later" : Str) = "other") by decide +kernel, if_true, if_false]
      · simp only [lookup_putF, show ¬ (("kind" : Str) = "_told") by decide +kernel, show ¬ (("kind" : Str) = "tool") by decide +kernel, show ¬ (("kind" : Str) = "moment") by decide +kernel, show ¬ (("kind" : Str) = "by") by decide +kernel, show ¬ (("kind" : Str) = "is_sound") by decide +kernel, show ¬ (("kind" : Str) = "one") by decide +kernel, show ¬ (("kind" : Str) = "other") by decide +kernel, show ¬ (("kind" : Str) = "later") by decide +kernel, show ¬ (("_told" : Str) = "kind") by decide +kernel, show ¬ (("_told" : Str) = "tool") by decide +kernel, show ¬ (("_told" : Str) = "moment") by decide +kernel, show ¬ (("_told" : Str) = "by") by decide +kernel, show ¬ (("_told" : Str) = "is_sound") by decide +kernel, show ¬ (("_told" : Str) = "one") by decide +kernel, show ¬ (("_told" : Str) = "other") by decide +kernel, show ¬ (("_told" : Str) = "later") by decide +kernel, show ¬ (("tool" : Str) = "kind") by decide +kernel, show ¬ (("tool" : Str) = "_told") by decide +kernel, show ¬ (("tool" : Str) = "moment") by decide +kernel, show ¬ (("tool" : Str) = "by") by decide +kernel, show ¬ (("tool" : Str) = "is_sound") by decide +kernel, show ¬ (("tool" : Str) = "one") by decide +kernel, show ¬ (("tool" : Str) = "other") by decide +kernel, show ¬ (("tool" : Str) = "later") by decide +kernel, show ¬ (("moment" : Str) = "kind") by decide +kernel, show ¬ (("moment" : Str) = "_told") by decide +kernel, show ¬ (("moment" : Str) = "tool") by decide +kernel, show ¬ (("moment" : Str) = "by") by decide +kernel, show ¬ (("moment" : Str) = "is_sound") by decide +kernel, show ¬ (("moment" : Str) = "one") by decide +kernel, show ¬ (("moment" : Str) = "other") by decide +kernel, show ¬ (("moment" : Str) = "later") by decide +kernel, show ¬ (("by" : Str) = "kind") by decide +kernel, show ¬ (("by" : Str) = "_told") by decide +kernel, show ¬ (("by" : Str) = "tool") by decide +kernel, show ¬ (("by" : Str) = "moment") by decide +kernel, show ¬ (("by" : Str) = "is_sound") by decide +kernel, show ¬ (("by" : Str) = "one") by decide +kernel, show ¬ (("by" : Str) = "other") by decide +kernel, show ¬ (("by" : Str) = "later") by decide +kernel, show ¬ (("is_sound" : Str) = "kind") by decide +kernel, show ¬ (("is_sound" : Str) = "_told") by decide +kernel, show ¬ (("is_sound" : Str) = "tool") by decide +kernel, show ¬ (("is_sound" : Str) = "moment") by decide +kernel, show ¬ (("is_sound" : Str) = "by") by decide +kernel, show ¬ (("is_sound" : Str) = "one") by decide +kernel, show ¬ (("is_sound" : Str) = "other") by decide +kernel, show ¬ (("is_sound" : Str) = "later") by decide +kernel, show ¬ (("one" : Str) = "kind") by decide +kernel, show ¬ (("one" : Str) = "_told") by decide +kernel, show ¬ (("one" : Str) = "tool") by decide +kernel, show ¬ (("one" : Str) = "moment") by decide +kernel, show ¬ (("one" : Str) = "by") by decide +kernel, show ¬ (("one" : Str) = "is_sound") by decide +kernel, show ¬ (("one" : Str) = "other") by decide +kernel, show ¬ (("one" : Str) = "later") by decide +kernel, show ¬ (("other" : Str) = "kind") by decide +kernel, show ¬ (("other" : Str) = "_told") by decide +kernel, show ¬ (("other" : Str) = "tool") by decide +kernel, show ¬ (("other" : Str) = "moment") by decide +kernel, show ¬ (("other" : Str) = "by") by decide +kernel, show ¬ (("other" : Str) = "is_sound") by decide +kernel, show ¬ (("other" : Str) = "one") by decide +kernel, show ¬ (("other" : Str) = "later") by decide +kernel, show ¬ (("later" : Str) = "kind") by decide +kernel, show ¬ (("later" : Str) = "_told") by decide +kernel, show ¬ (("later" : Str) = "tool") by decide +kernel, show ¬ (("later" : Str) = "moment") by decide +kernel, show ¬ (("later" : Str) = "by") by decide +kernel, show ¬ (("later" : Str) = "is_sound") by decide +kernel, show ¬ (("later" : Str) = "one") by decide +kernel, show ¬ (("later" : Str) = "other") by decide +kernel, if_true, if_false]
      · repeat rw [upd_ne ntp]
        exact etp
      · rw [attrs_failed]
        simp only [List.zip_cons_cons, List.zip_nil_right, List.forall_mem_cons]
        refine ⟨(by simp only [lookup_putF, show ¬ (("kind" : Str) = "_told") by decide +kernel, show ¬ (("kind" : Str) = "tool") by decide +kernel, show ¬ (("kind" : Str) = "moment") by decide +kernel, show ¬ (("kind" : Str) = "by") by decide +kernel, show ¬ (("kind" : Str) = "is_sound") by decide +kernel, show ¬ (("kind" : Str) = "one") by decide +kernel, show ¬ (("kind" : Str) = "other") by decide +kernel, show ¬ (("kind" : Str) = "later") by decide +kernel, show ¬ (("_told" : Str) = "kind") by decide +kernel, show ¬ (("_told" : Str) = "tool") by decide +kernel, show ¬ (("_told" : Str) = "moment") by decide +kernel, show ¬ (("_told" : Str) = "by") by decide +kernel, show ¬ (("_told" : Str) = "is_sound") by decide +kernel, show ¬ (("_told" : Str) = "one") by decide +kernel, show ¬ (("_told" : Str) = "other") by decide +kernel, show ¬ (("_told" : Str) = "later") by decide +kernel, show ¬ (("tool" : Str) = "kind") by decide +kernel, show ¬ (("tool" : Str) = "_told") by decide +kernel, show ¬ (("tool" : Str) = "moment") by decide +kernel, show ¬ (("tool" : Str) = "by") by decide +kernel, show ¬ (("tool" : Str) = "is_sound") by decide +kernel, show ¬ (("tool" : Str) = "one") by decide +kernel, show ¬ (("tool" : Str) = "other") by decide +kernel, show ¬ (("tool" : Str) = "later") by decide +kernel, show ¬ (("moment" : Str) = "kind") by decide +kernel, show ¬ (("moment" : Str) = "_told") by decide +kernel, show ¬ (("moment" : Str) = "tool") by decide +kernel, show ¬ (("moment" : Str) = "by") by decide +kernel, show ¬ (("moment" : Str) = "is_sound") by decide +kernel, show ¬ (("moment" : Str) = "one") by decide +kernel, show ¬ (("moment" : Str) = "other") by decide +kernel, show ¬ (("moment" : Str) = "later") by decide +kernel, show ¬ (("by" : Str) = "kind") by decide +kernel, show ¬ (("by" : Str) = "_told") by decide +kernel, show ¬ (("by" : Str) = "tool") by decide +kernel, show ¬ (("by" : Str) = "moment") by decide +kernel, show ¬ (("by" : Str) = "is_sound") by decide +kernel, show ¬ (("by" : Str) = "one") by decide +kernel, show ¬ (("by" : Str) = "other") by decide +kernel, show ¬ (("by" : Str) = "later") by decide +kernel, show ¬ (("is_sound" : Str) = "kind") by decide +kernel, show ¬ (("is_sound" : Str) = "_told") by decide +kernel, show ¬ (("is_sound" : Str) = "tool") by decide +kernel, show ¬ (("is_sound" : Str) = "moment") by decide +kernel, show ¬ (("is_sound" : Str) = "by") by decide +kernel, show ¬ (("is_sound" : Str) = "one") by decide +kernel, show ¬ (("is_sound" : Str) = "other") by decide +kernel, show ¬ (("is_sound" : Str) = "later") by decide +kernel, show ¬ (("one" : Str) = "kind") by decide +kernel, show ¬ (("one" : Str) = "_told") by decide +kernel, show ¬ (("one" : Str) = "tool") by decide +kernel, show ¬ (("one" : Str) = "moment") by decide +kernel, show ¬ (("one" : Str) = "by") by decide +kernel, show ¬ (("one" : Str) = "is_sound") by decide +kernel, show ¬ (("one" : Str) = "other") by decide +kernel, show ¬ (("one" : Str) = "later") by decide +kernel, show ¬ (("other" : Str) = "kind") by decide +kernel, show ¬ (("other" : Str) = "_told") by decide +kernel, show ¬ (("other" : Str) = "tool") by decide +kernel, show ¬ (("other" : Str) = "moment") by decide +kernel, show ¬ (("other" : Str) = "by") by decide +kernel, show ¬ (("other" : Str) = "is_sound") by decide +kernel, show ¬ (("other" : Str) = "one") by decide +kernel, show ¬ (("other" : Str) = "later") by decide +kernel, show ¬ (("later" : Str) = "kind") by decide +kernel, show ¬ (("later" : Str) = "_told") by decide +kernel, show ¬ (("later" : Str) = "tool") by decide +kernel, show ¬ (("later" : Str) = "moment") by decide +kernel, show ¬ (("later" : Str) = "by") by decide +kernel, show ¬ (("later" : Str) = "is_sound") by decide +kernel, show ¬ (("later" : Str) = "one") by decide +kernel, show ¬ (("later" : Str) = "other") by decide +kernel, if_true, if_false]), (by simp only [lookup_putF, show ¬ (("kind" : Str) = "_told") by decide +kernel, show ¬ (("kind" : Str) = "tool") by decide +kernel, show ¬ (("kind" : Str) = "moment") by decide +kernel, show ¬ (("kind" : Str) = "by") by decide +kernel, show ¬ (("kind" : Str) = "is_sound") by decide +kernel, show ¬ (("kind" : Str) = "one") by decide +kernel, show ¬ (("kind" : Str) = "other") by decide +kernel, show ¬ (("kind" : Str) = "later") by decide +kernel, show ¬ (("_told" : Str) = "kind") by decide +kernel, show ¬ (("_told" : Str) = "tool") by decide +kernel, show ¬ (("_told" : Str) = "moment") by decide +kernel, show ¬ (("_told" : Str) = "by") by decide +kernel, show ¬ (("_told" : Str) = "is_sound") by decide +kernel, show ¬ (("_told" : Str) = "one") by decide +kernel, show ¬ (("_told" : Str) = "other") by decide +kernel, show ¬ (("_told" : Str) = "later") by decide +kernel, show ¬ (("tool" : Str) = "kind") by decide +kernel, show ¬ (("tool" : Str) = "_told") by decide +kernel, show ¬ (("tool" : Str) = "moment") by decide +kernel, show ¬ (("tool" : Str) = "by") by decide +kernel, show ¬ (("tool" : Str) = "is_sound") by decide +kernel, show ¬ (("tool" : Str) = "one") by decide +kernel, show ¬ (("tool" : Str) = "other") by decide +kernel, show ¬ (("tool" : Str) = "later") by decide +kernel, show ¬ (("moment" : Str) = "kind") by decide +kernel, show ¬ (("moment" : Str) = "_told") by decide +kernel, show ¬ (("moment" : Str) = "tool") by decide +kernel, show ¬ (("moment" : Str) = "by") by decide +kernel, show ¬ (("moment" : Str) = "is_sound") by decide +kernel, show ¬ (("moment" : Str) = "one") by decide +kernel, show ¬ (("moment" : Str) = "other") by decide +kernel, show ¬ (("moment" : Str) = "later") by decide +kernel, show ¬ (("by" : Str) = "kind") by decide +kernel, show ¬ (("by" : Str) = "_told") by decide +kernel, show ¬ (("by" : Str) = "tool") by decide +kernel, show ¬ (("by" : Str) = "moment") by decide +kernel, show ¬ (("by" : Str) = "is_sound") by decide +kernel, show ¬ (("by" : Str) = "one") by decide +kernel, show ¬ (("by" : Str) = "other") by decide +kernel, show ¬ (("by" : Str) = "later") by decide +kernel, show ¬ (("is_sound" : Str) = "kind") by decide +kernel, show ¬ (("is_sound" : Str) = "_told") by decide +kernel, show ¬ (("is_sound" : Str) = "tool") by decide +kernel, show ¬ (("is_sound" : Str) = "moment") by decide +kernel, show ¬ (("is_sound" : Str) = "by") by decide +kernel, show ¬ (("is_sound" : Str) = "one") by decide +kernel, show ¬ (("is_sound" : Str) = "other") by decide +kernel, show ¬ (("is_sound" : Str) = "later") by decide +kernel, show ¬ (("one" : Str) = "kind") by decide +kernel, show ¬ (("one" : Str) = "_told") by decide +kernel, show ¬ (("one" : Str) = "tool") by decide +kernel, show ¬ (("one" : Str) = "moment") by decide +kernel, show ¬ (("one" : Str) = "by") by decide +kernel, show ¬ (("one" : Str) = "is_sound") by decide +kernel, show ¬ (("one" : Str) = "other") by decide +kernel, show ¬ (("one" : Str) = "later") by decide +kernel, show ¬ (("other" : Str) = "kind") by decide +kernel, show ¬ (("other" : Str) = "_told") by decide +kernel, show ¬ (("other" : Str) = "tool") by decide +kernel, show ¬ (("other" : Str) = "moment") by decide +kernel, show ¬ (("other" : Str) = "by") by decide +kernel, show ¬ (("other" : Str) = "is_sound") by decide +kernel, show ¬ (("other" : Str) = "one") by decide +kernel, show ¬ (("other" : Str) = "later") by decide +kernel, show ¬ (("later" : Str) = "kind") by decide +kernel, show ¬ (("later" : Str) = "_told") by decide +kernel, show ¬ (("later" : Str) = "tool") by decide +kernel, show ¬ (("later" : Str) = "moment") by decide +kernel, show ¬ (("later" : Str) = "by") by decide +kernel, show ¬ (("later" : Str) = "is_sound") by decide +kernel, show ¬ (("later" : Str) = "one") by decide +kernel, show ¬ (("later" : Str) = "other") by decide +kernel, if_true, if_false]), (by simp only [lookup_putF, show ¬ (("kind" : Str) = "_told") by decide +kernel, show ¬ (("kind" : Str) = "tool") by decide +kernel, show ¬ (("kind" : Str) = "moment") by decide +kernel, show ¬ (("kind" : Str) = "by") by decide +kernel, show ¬ (("kind" : Str) = "is_sound") by decide +kernel, show ¬ (("kind" : Str) = "one") by decide +kernel, show ¬ (("kind" : Str) = "other") by decide +kernel, show ¬ (("kind" : Str) = "later") by decide +kernel, show ¬ (("_told" : Str) = "kind") by decide +kernel, show ¬ (("_told" : Str) = "tool") by decide +kernel, show ¬ (("_told" : Str) = "moment") by decide +kernel, show ¬ (("_told" : Str) = "by") by decide +kernel, show ¬ (("_told" : Str) = "is_sound") by decide +kernel, show ¬ (("_told" : Str) = "one") by decide +kernel, show ¬ (("_told" : Str) = "other") by decide +kernel, show ¬ (("_told" : Str) = "later") by decide +kernel, show ¬ (("tool" : Str) = "kind") by decide +kernel, show ¬ (("tool" : Str) = "_told") by decide +kernel, show ¬ (("tool" : Str) = "moment") by decide +kernel, show ¬ (("tool" : Str) = "by") by decide +kernel, show ¬ (("tool" : Str) = "is_sound") by decide +kernel, show ¬ (("tool" : Str) = "one") by decide +kernel, show ¬ (("tool" : Str) = "other") by decide +kernel, show ¬ (("tool" : Str) = "later") by decide +kernel, show ¬ (("moment" : Str) = "kind") by decide +kernel, show ¬ (("moment" : Str) = "_told") by decide +kernel, show ¬ (("moment" : Str) = "tool") by decide +kernel, show ¬ (("moment" : Str) = "by") by decide +kernel, show ¬ (("moment" : Str) = "is_sound") by decide +kernel, show ¬ (("moment" : Str) = "one") by decide +kernel, show ¬ (("moment" : Str) = "other") by decide +kernel, show ¬ (("moment" : Str) = "later") by decide +kernel, show ¬ (("by" : Str) = "kind") by decide +kernel, show ¬ (("by" : Str) = "_told") by decide +kernel, show ¬ (("by" : Str) = "tool") by decide +kernel, show ¬ (("by" : Str) = "moment") by decide +kernel, show ¬ (("by" : Str) = "is_sound") by decide +kernel, show ¬ (("by" : Str) = "one") by decide +kernel, show ¬ (("by" : Str) = "other") by decide +kernel, show ¬ (("by" : Str) = "later") by decide +kernel, show ¬ (("is_sound" : Str) = "kind") by decide +kernel, show ¬ (("is_sound" : Str) = "_told") by decide +kernel, show ¬ (("is_sound" : Str) = "tool") by decide +kernel, show ¬ (("is_sound" : Str) = "moment") by decide +kernel, show ¬ (("is_sound" : Str) = "by") by decide +kernel, show ¬ (("is_sound" : Str) = "one") by decide +kernel, show ¬ (("is_sound" : Str) = "other") by decide +kernel, show ¬ (("is_sound" : Str) = "later") by decide +kernel, show ¬ (("one" : Str) = "kind") by decide +kernel, show ¬ (("one" : Str) = "_told") by decide +kernel, show ¬ (("one" : Str) = "tool") by decide +kernel, show ¬ (("one" : Str) = "moment") by decide +kernel, show ¬ (("one" : Str) = "by") by decide +kernel, show ¬ (("one" : Str) = "is_sound") by decide +kernel, show ¬ (("one" : Str) = "other") by decide +kernel, show ¬ (("one" : Str) = "later") by decide +kernel, show ¬ (("other" : Str) = "kind") by decide +kernel, show ¬ (("other" : Str) = "_told") by decide +kernel, show ¬ (("other" : Str) = "tool") by decide +kernel, show ¬ (("other" : Str) = "moment") by decide +kernel, show ¬ (("other" : Str) = "by") by decide +kernel, show ¬ (("other" : Str) = "is_sound") by decide +kernel, show ¬ (("other" : Str) = "one") by decide +kernel, show ¬ (("other" : Str) = "later") by decide +kernel, show ¬ (("later" : Str) = "kind") by decide +kernel, show ¬ (("later" : Str) = "_told") by decide +kernel, show ¬ (("later" : Str) = "tool") by decide +kernel, show ¬ (("later" : Str) = "moment") by decide +kernel, show ¬ (("later" : Str) = "by") by decide +kernel, show ¬ (("later" : Str) = "is_sound") by decide +kernel, show ¬ (("later" : Str) = "one") by decide +kernel, show ¬ (("later" : Str) = "other") by decide +kernel, if_true, if_false]), fun _ h => nomatch h⟩
abbrev sMeeting : Stmt := inClass (topS 32) 0
theorem scMeeting : FnScope ["self", "kind", "one", "moment", "other", "later"] ["self", "kind", "one", "moment", "other", "later"] (defScope sMeeting) := ⟨rfl, rfl, rfl, by decide +kernel, rfl, by decide +kernel, by decide +kernel⟩
def spMeet (CN CM CS C : Addr) : Sp := fun vs H Q E => ∃ (x dx : Addr) (kind : Str) (xs : List V), vs = .ref x :: .str kind :: xs ∧ kind ∈ (["agreed", "differed", "served", "backed"] : List Str) ∧ H x = some (.ins C dx []) ∧ xs.length = (formsOf kind).length ∧ (∀ y ∈ xs, ∃ T, Gv H y T) ∧
  WaysL CN CM CS (xs.zip (formsOf kind)) H E (∀ H' fs, Off x H H' → H' x = some (.ins C dx fs) → Told kind xs H' fs → Q .non H')
theorem meet_in : ∀ kind ∈ (["agreed", "differed", "served", "backed"] : List Str), kind ∈ kinds ∧ (formsOf kind).length = 4 := by decide +kernel
theorem ok_Meeting {CN CM CS C f fK : Addr} {fd fdK : FuncData} (F : Fun K "__init__" "Meeting.__init__" sMeeting f fd) (T : RowC K C ["_told", "kind", "one", "moment", "other", "later"]) (FK : Fun K "checked" "checked" sChecked fK fdK) (bK : Binds K fdK ["kind", "told"] []) (gK : mg "checked" = some (.ref fK))
    (GK : FnOk P w K mg base (L2.CX P w) 4 fK fdK ["kind", "told"] (spChecked CN CM CS)) : FnOk P w K mg base (L2.CX P w) 5 f fd ["self", "kind", "one", "moment", "other", "later"] (spMeet CN CM CS C) := by
  refine F.okX scMeeting (fun vs H Q E h => ?_) (fun cdv A outer s H vs Q E hr h => ?_)
  · obtain ⟨x, dx, kind, xs, rfl, hk, _, hl, _⟩ := h
    rw [(meet_in kind hk).2] at hl
    show xs.length + 1 + 1 = 6
    omega
  · obtain ⟨x, dx, kind, xs, rfl, hk, hx, hl, hg, qy, qn⟩ := h
    have hkin := (meet_in kind hk).1
    have hl4 := (meet_in kind hk).2
    obtain ⟨v0, v1, v2, v3, rfl⟩ : ∃ v0 v1 v2 v3, xs = [v0, v1, v2, v3] := by
      rw [hl4] at hl
      match xs, hl with
      | [v0, v1, v2, v3], _ => exact ⟨_, _, _, _, rfl⟩
    have no := T.no
    simp only [List.forall_mem_cons] at no
    obtain ⟨n0, n1, n2, n3, n4, n5, _⟩ := no
    refine ⟨_, pss_cons (ps_fld (pv 0) (pe_call GK hr (by rfl) gK FK.kp bK .nil (passes_call (takes_of rfl rfl rfl rfl) (fun _ _ _ _ h => h)) (pa_cons (pv 1) (pa_cons (pe_tup (pa_cons (pv 2) (pa_cons (pv 3) (pa_cons (pv 4) (pa_cons (pv 5) pa_nil))))) pa_nil))) rfl)
      (pss_cons (ps_fld (pv 0) (pv 1) rfl)
      (pss_cons (ps_fld (pv 0) (pv 2) rfl) (pss_cons (ps_fld (pv 0) (pv 3) rfl) (pss_cons (ps_fld (pv 0) (pv 4) rfl) (pss_one (ps_fld (pv 0) (pv 5) rfl)))))), ?_⟩
    refine ⟨_, rfl, _, rfl, _, rfl, _, rfl, _, rfl, by show 4 ≤ sizeLine; decide, fun tp htp => ?_⟩
    have s1 := same_upd0 (o := .tup [v0, v1, v2, v3]) htp
    refine ⟨kind, tp, [v0, v1, v2, v3], rfl, hkin, upd_same, hl, (fun y hy => (hg y hy).elim fun T h => ⟨T, h.same s1⟩), fun gd H2 s2 => ?_, fun C' fl v g d H' s e => qn C' fl v g d H' (s1.trans s) e⟩
    have hx2 := s2 _ _ (s1 _ _ hx)
    have s12 := s1.trans s2
    refine ⟨_, rfl, x, C, dx, [], rfl, hx2, T.cl, n0, by show 0 < 1000; decide, ?_⟩
    refine ⟨_, rfl, _, rfl, x, C, dx, _, rfl, upd_same, T.cl, n1, Nat.lt_of_le_of_lt (lenC (Nat.le_refl 0)) (by decide), ?_⟩
    refine ⟨_, rfl, _, rfl, x, C, dx, _, rfl, upd_same, T.cl, n2, Nat.lt_of_le_of_lt (lenC (lenC (Nat.le_refl 0))) (by decide), ?_⟩
    refine ⟨_, rfl, _, rfl, x, C, dx, _, rfl, upd_same, T.cl, n3, Nat.lt_of_le_of_lt (lenC (lenC (lenC (Nat.le_refl 0)))) (by decide), ?_⟩
    refine ⟨_, rfl, _, rfl, x, C, dx, _, rfl, upd_same, T.cl, n4, Nat.lt_of_le_of_lt (lenC (lenC (lenC (lenC (Nat.le_refl 0))))) (by decide), ?_⟩
    refine ⟨_, rfl, _, rfl, x, C, dx, _, rfl, upd_same, T.cl, n5, Nat.lt_of_le_of_lt (lenC (lenC (lenC (lenC (lenC (Nat.le_refl 0)))))) (by decide), ?_⟩
    refine qy gd _ _ (fun c o nc e => ?_) upd_same ?_
    · rw [upd_ne nc, upd_ne nc, upd_ne nc, upd_ne nc, upd_ne nc, upd_ne nc]
      exact s12 c o e
    · have ntp : tp ≠ x := fun z => by rw [z, hx] at htp; cases htp
      have etp := s2 _ _ (show (upd H tp (.tup _)) tp = _ from upd_same)
      refine ⟨?_, ⟨tp, ?_, ?_⟩, ?_, (by repeat (first | exact NoM.nil | refine NoM.put ?_ (by decide +kernel)))⟩
      · simp only [lookup_putF, show ¬ (("kind" : Str) = "_told") by decide +kernel, show ¬ (("kind" : Str) = "tool") by decide +kernel, show ¬ (("kind" : Str) = "moment") by decide +kernel, show ¬ (("kind" : Str) = "by") by decide +kernel, show ¬ (("kind" : Str) = "is_sound") by decide +kernel, show ¬ (("kind" : Str) = "one") by decide +kernel, show ¬ (("kind" : Str) = "other") by decide +kernel, show ¬ (("kind" : Str) = "later") by decide +kernel, show ¬ (("_told" : Str) = "kind") by decide +kernel, show ¬ (("_told" : Str) = "tool") by decide +kernel, show ¬ (("_told" : Str) = "moment") by decide +kernel, show ¬ (("_told" : Str) = "by") by decide +kernel, show ¬ (("_told" : Str) = "is_sound") by decide +kernel, show ¬ (("_told" : Str) = "one") by decide +kernel, show ¬ (("_told" : Str) = "other") by decide +kernel, show ¬ (("_told" : Str) = "later") by decide +kernel, show ¬ (("tool" : Str) = "kind") by decide +kernel, show ¬ (("tool" : Str) = "_told") by decide +kernel, show ¬ (("tool" : Str) = "moment") by decide +kernel, show ¬ (("tool" : Str) = "by") by decide +kernel, show ¬ (("tool" : Str) = "is_sound") by decide +kernel, show ¬ (("tool" : Str) = "one") by decide +kernel, show ¬ (("tool" : Str) = "other") by decide +kernel, show ¬ (("tool" : Str) = "later") by decide +kernel, show ¬ (("moment" : Str) = "kind") by decide +kernel, show ¬ (("moment" : Str) = "_told") by decide +kernel, show ¬ (("moment" : Str) = "tool") by decide +kernel, show ¬ (("moment" : Str) = "by") by decide +kernel, show ¬ (("moment" : Str) = "is_sound") by decide +kernel, show ¬ (("moment" : Str) = "one") by decide +kernel, show ¬ (("moment" : Str) = "other") by decide +kernel, show ¬ (("moment" : Str) = "later") by decide +kernel, show ¬ (("by" : Str) = "kind") by decide +kernel, show ¬ (("by" : Str) = "_told") by decide +kernel, show ¬ (("by" : Str) = "tool") by decide +kernel, show ¬ (("by" : Str) = "moment") by decide +kernel, show ¬ (("by" : Str) = "is_sound") by decide +kernel, show ¬ (("by" : Str) = "one") by decide +kernel, show ¬ (("by" : Str) = "other") by decide +kernel, show ¬ (("by" : Str) = "later") by decide +kernel, show ¬ (("is_sound" : Str) = "kind") by decide +kernel, show ¬ (("is_sound" : Str) = "_told") by decide +kernel, show ¬ (("is_sound" : Str) = "tool") by decide +kernel, show ¬ (("is_sound" : Str) = "moment") by decide +kernel, show ¬ (("is_sound" : Str) = "by") by decide +kernel, show ¬ (("is_sound" : Str) = "one") by decide +kernel, show ¬ (("is_sound" : Str) = "other") by decide +kernel, show ¬ (("is_sound" : Str) = "later") by decide +kernel, show ¬ (("one" : Str) = "kind") by decide +kernel, show ¬ (("one" : Str) = "_told") by decide +kernel, show ¬ (("one" : Str) = "tool") by decide +kernel, show ¬ (("one" : Str) = "moment") by decide +kernel, show ¬ (("one" : Str) = "by") by decide +kernel, show ¬ (("one" : Str) = "is_sound") by decide +kernel, show ¬ (("one" : Str) = "other") by decide +kernel, show ¬ (("one" : Str) = "later") by decide +kernel, show ¬ (("other" : Str) = "kind") by decide +kernel, show ¬ (("other" : Str) = "_told") by decide +kernel, show ¬ (("other" : Str) = "tool") by decide +kernel, show ¬ (("other" : Str) = "moment") by decide +kernel, show ¬ (("other" : Str) = "by") by decide +kernel, show ¬ (("other" : Str) = "is_sound") by decide +kernel, show ¬ (("other" : Str) = "one") by decide +kernel, show ¬ (("other" : Str) = "later") by decide +kernel, show ¬ (("later" : Str) = "kind") by decide +kernel, show ¬ (("later" : Str) = "_told") by decide +kernel, show ¬ (("later" : Str) = "tool") by decide +kernel, show ¬ (("later" : Str) = "moment") by decide +kernel, show ¬ (("later" : Str) = "by") by decide +kernel, show ¬ (("later" : Str) = "is_sound") by decide +kernel, show ¬ (("later" : Str) = "one") by decide +kernel, show ¬ (("later" : Str) = "other") by decide +kernel, if_true, if_false]
      · simp only [lookup_putF, show ¬ (("kind" : Str) = "_told") by decide +kernel, show ¬ (("kind" : Str) = "tool") by decide +kernel, show ¬ (("kind" : Str) = "moment") by decide +kernel, show ¬ (("kind" : Str) = "by") by decide +kernel, show ¬ (("kind" : Str) = "is_sound") by decide +kernel, show ¬ (("kind" : Str) = "one") by decide +kernel, show ¬ (("kind" : Str) = "other") by decide +kernel, show ¬ (("kind" : Str) = "later") by decide +kernel, show ¬ (("_told" : Str) = "kind") by decide +kernel, show ¬ (("_told" : Str) = "tool") by decide +kernel, show ¬ (("_told" : Str) = "moment") by decide +kernel, show ¬ (("_told" : Str) = "by") by decide +kernel, show ¬ (("_told" : Str) = "is_sound") by decide +kernel, show ¬ (("_told" : Str) = "one") by decide +kernel, show ¬ (("_told" : Str) = "other") by decide +kernel, show ¬ (("_told" : Str) = "later") by decide +kernel, show ¬ (("tool" : Str) = "kind") by decide +kernel, show ¬ (("tool" : Str) = "_told") by decide +kernel, show ¬ (("tool" : Str) = "moment") by decide +kernel, show ¬ (("tool" : Str) = "by") by decide +kernel, show ¬ (("tool" : Str) = "is_sound") by decide +kernel, show ¬ (("tool" : Str) = "one") by decide +kernel, show ¬ (("tool" : Str) = "other") by decide +kernel, show ¬ (("tool" : Str) = "later") by decide +kernel, show ¬ (("moment" : Str) = "kind") by decide +kernel, show ¬ (("moment" : Str) = "_told") by decide +kernel, show ¬ (("moment" : Str) = "tool") by decide +kernel, show ¬ (("moment" : Str) = "by") by decide +kernel, show ¬ (("moment" : Str) = "is_sound") by decide +kernel, show ¬ (("moment" : Str) = "one") by decide +kernel, show ¬ (("moment" : Str) = "other") by decide +kernel, show ¬ (("moment" : Str) = "later") by decide +kernel, show ¬ (("by" : Str) = "kind") by decide +kernel, show ¬ (("by" : Str) = "_told") by decide +kernel, show ¬ (("by" : Str) = "tool") by decide +kernel, show ¬ (("by" : Str) = "moment") by decide +kernel, show ¬ (("by" : Str) = "is_sound") by decide +kernel, show ¬ (("by" : Str) = "one") by decide +kernel, show ¬ (("by" : Str) = "other") by decide +kernel, show ¬ (("by" : Str) = "later") by decide +kernel, show ¬ (("is_sound" : Str) = "kind") by decide +kernel, show ¬ (("is_sound" : Str) = "_told") by decide +kernel, show ¬ (("is_sound" : Str) = "tool") by decide +kernel, show ¬ (("is_sound" : Str) = "moment") by decide +kernel, show ¬ (("is_sound" : Str) = "by") by decide +kernel, show ¬ (("is_sound" : Str) = "one") by decide +kernel, show ¬ (("is_sound" : Str) = "other") by decide +kernel, show ¬ (("is_sound" : Str) = "later") by decide +kernel, show ¬ (("one" : Str) = "kind") by decide +kernel, show ¬ (("one" : Str) = "_told") by decide +kernel, show ¬ (("one" : Str) = "tool") by decide +kernel, show ¬ (("one" : Str) = "moment") by decide +kernel, show ¬ (("one" : Str) = "by") by decide +kernel, show ¬ (("one" : Str) = "is_sound") by decide +kernel, show ¬ (("one" : Str) = "other") by decide +kernel, show ¬ (("one" : Str) = "later") by decide +kernel, show ¬ (("other" : Str) = "kind") by decide +kernel, show ¬ (("other" : Str) = "_told") by decide +kernel, show ¬ (("other" : Str) = "tool") by decide +kernel, show ¬ (("other" : Str) = "moment") by decide +kernel, show ¬ (("other" : Str) = "by") by decide +kernel, show ¬ (("other" : Str) = "is_sound") by decide +kernel, show ¬ (("other" : Str) = "one") by decide +kernel, show ¬ (("other" : Str) = "later") by decide +kernel, show ¬ (("later" : Str) = "kind") by decide +kernel, show ¬ (("later" : Str) = "_told") by decide +kernel, show ¬ (("later" : Str) = "tool") by decide +kernel, show ¬ (("later" : Str) = "moment") by decide +kernel, show ¬ (("later" : Str) = "by") by decide +kernel, show ¬ (("later" : Str) = "is_sound") by decide +kernel, show ¬ (("later" : Str) = "one") by decide +kernel, show ¬ (("later" : Str) = "other") by decide +kernel, if_true, if_false]
      · repeat rw [upd_ne ntp]
        exact etp
      · rw [attrs_meet kind hk]
        simp only [List.zip_cons_cons, List.zip_nil_right, List.forall_mem_cons]
        refine ⟨(by simp only [lookup_putF, show ¬ (("kind" : Str) = "_told") by decide +kernel, show ¬ (("kind" : Str) = "tool") by decide +kernel, show ¬ (("kind" : Str) = "moment") by decide +kernel, show ¬ (("kind" : Str) = "by") by decide +kernel, show ¬ (("kind" : Str) = "is_sound") by decide +kernel, show ¬ (("kind" : Str) = "one") by decide +kernel, show ¬ (("kind" : Str) = "other") by decide +kernel, show ¬ (("kind" : Str) = "later") by decide +kernel, show ¬ (("_told" : Str) = "kind") by decide +kernel, show ¬ (("_told" : Str) = "tool") by decide +kernel, show ¬ (("_told" : Str) = "moment") by decide +kernel, show ¬ (("_told" : Str) = "by") by decide +kernel, show ¬ (("_told" : Str) = "is_sound") by decide +kernel, show ¬ (("_told" : Str) = "one") by decide +kernel, show ¬ (("_told" : Str) = "other") by decide +kernel, show ¬ (("_told" : Str) = "later") by decide +kernel, show ¬ (("tool" : Str) = "kind") by decide +kernel, show ¬ (("tool" : Str) = "_told") by decide +kernel, show ¬ (("tool" : Str) = "moment") by decide +kernel, show ¬ (("tool" : Str) = "by") by decide +kernel, show ¬ (("tool" : Str) = "is_sound") by decide +kernel, show ¬ (("tool" : Str) = "one") by decide +kernel, show ¬ (("tool" : Str) = "other") by decide +kernel, show ¬ (("tool" : Str) = "later") by decide +kernel, show ¬ (("moment" : Str) = "kind") by decide +kernel, show ¬ (("moment" : Str) = "_told") by decide +kernel, show ¬ (("moment" : Str) = "tool") by decide +kernel, show ¬ (("moment" : Str) = "by") by decide +kernel, show ¬ (("moment" : Str) = "is_sound") by decide +kernel, show ¬ (("moment" : Str) = "one") by decide +kernel, show ¬ (("moment" : Str) = "other") by decide +kernel, show ¬ (("moment" : Str) = "later") by decide +kernel, show ¬ (("by" : Str) = "kind") by decide +kernel, show ¬ (("by" : Str) = "_told") by decide +kernel, show ¬ (("by" : Str) = "tool") by decide +kernel, show ¬ (("by" : Str) = "moment") by decide +kernel, show ¬ (("by" : Str) = "is_sound") by decide +kernel, show ¬ (("by" : Str) = "one") by decide +kernel, show ¬ (("by" : Str) = "other") by decide +kernel, show ¬ (("by" : Str) = "later") by decide +kernel, show ¬ (("is_sound" : Str) = "kind") by decide +kernel, show ¬ (("is_sound" : Str) = "_told") by decide +kernel, show ¬ (("is_sound" : Str) = "tool") by decide +kernel, show ¬ (("is_sound" : Str) = "moment") by decide +kernel, show ¬ (("is_sound" : Str) = "by") by decide +kernel, show ¬ (("is_sound" : Str) = "one") by decide +kernel, show ¬ (("is_sound" : Str) = "other") by decide +kernel, show ¬ (("is_sound" : Str) = "later") by decide +kernel, show ¬ (("one" : Str) = "kind") by decide +kernel, show ¬ (("one" : Str) = "_told") by decide +kernel, show ¬ (("one" : Str) = "tool") by decide +kernel, show ¬ (("one" : Str) = "moment") by decide +kernel, show ¬ (("one" : Str) = "by") by decide +kernel, show ¬ (("one" : Str) = "is_sound") by decide +kernel, show ¬ (("one" : Str) = "other") by decide +kernel, show ¬ (("one" : Str) = "later") by decide +kernel, show ¬ (("other" : Str) = "kind") by decide +kernel, show ¬ (("other" : Str) = "_told") by decide +kernel, show ¬ (("other" : Str) = "tool") by decide +kernel, show ¬ (("other" : Str) = "moment") by decide +kernel, show ¬ (("other" : Str) = "by") by decide +kernel, show ¬ (("other" : Str) = "is_sound") by decide +kernel, show ¬ (("other" : Str) = "one") by decide +kernel, show ¬ (("other" : Str) = "later") by decide +kernel, show ¬ (("later" : Str) = "kind") by decide +kernel, show ¬ (("later" : Str) = "_told") by decide +kernel, show ¬ (("later" : Str) = "tool") by decide +kernel, show ¬ (("later" : Str) = "moment") by decide +kernel, show ¬ (("later" : Str) = "by") by decide +kernel, show ¬ (("later" : Str) = "is_sound") by decide +kernel, show ¬ (("later" : Str) = "one") by decide +kernel, show ¬ (("later" : Str) = "other") by decide +kernel, if_true, if_false]), (by simp only [lookup_putF, show ¬ (("kind" : Str) = "_told") by decide +kernel, show ¬ (("kind" : Str) = "tool") by decide +kernel, show ¬ (("kind" : Str) = "moment") by decide +kernel, show ¬ (("kind" : Str) = "by") by decide +kernel, show ¬ (("kind" : Str) = "is_sound") by decide +kernel, show ¬ (("kind" : Str) = "one") by decide +kernel, show ¬ (("kind" : Str) = "other") by decide +kernel, show ¬ (("kind" : Str) = "later") by decide +kernel, show ¬ (("_told" : Str) = "kind") by decide +kernel, show ¬ (("_told" : Str) = "tool") by decide +kernel, show ¬ (("_told" : Str) = "moment") by decide +kernel, show ¬ (("_told" : Str) = "by") by decide +kernel, show ¬ (("_told" : Str) = "is_sound") by decide +kernel, show ¬ (("_told" : Str) = "one") by decide +kernel, show ¬ (("_told" : Str) = "other") by decide +kernel, show ¬ (("_told" : Str) = "later") by decide +kernel, show ¬ (("tool" : Str) = "kind") by decide +kernel, show ¬ (("tool" : Str) = "_told") by decide +kernel, show ¬ (("tool" : Str) = "moment") by decide +kernel, show ¬ (("tool" : Str) = "by") by decide +kernel, show ¬ (("tool" : Str) = "is_sound") by decide +kernel, show ¬ (("tool" : Str) = "one") by decide +kernel, show ¬ (("tool" : Str) = "other") by decide +kernel, show ¬ (("tool" : Str) = "later") by decide +kernel, show ¬ (("moment" : Str) = "kind") by decide +kernel, show ¬ (("moment" : Str) = "_told") by decide +kernel, show ¬ (("moment" : Str) = "tool") by decide +kernel, show ¬ (("moment" : Str) = "by") by decide +kernel, show ¬ (("moment" : Str) = "is_sound") by decide +kernel, show ¬ (("moment" : Str) = "one") by decide +kernel, show ¬ (("moment" : Str) = "other") by decide +kernel, show ¬ (("moment" : Str) = "later") by decide +kernel, show ¬ (("by" : Str) = "kind") by decide +kernel, show ¬ (("by" : Str) = "_told") by decide +kernel, show ¬ (("by" : Str) = "tool") by decide +kernel, show ¬ (("by" : Str) = "moment") by decide +kernel, show ¬ (("by" : Str) = "is_sound") by decide +kernel, show ¬ (("by" : Str) = "one") by decide +kernel, show ¬ (("by" : Str) = "other") by decide +kernel, show ¬ (("by" : Str) = "later") by decide +kernel, show ¬ (("is_sound" : Str) = "kind") by decide +kernel, show ¬ (("is_sound" : Str) = "_told") by decide +kernel, show ¬ (("is_sound" : Str) = "tool") by decide +kernel, show ¬ (("is_sound" : Str) = "moment") by decide +kernel, show ¬ (("is_sound" : Str) = "by") by decide +kernel, show ¬ (("is_sound" : Str) = "one") by decide +kernel, show ¬ (("is_sound" : Str) = "other") by decide +kernel, show ¬ (("is_sound" : Str) = "later") by decide +kernel, show ¬ (("one" : Str) = "kind") by decide +kernel, show ¬ (("one" : Str) = "_told") by decide +kernel, show ¬ (("one" : Str) = "tool") by decide +kernel, show ¬ (("one" : Str) = "moment") by decide +kernel, show ¬ (("one" : Str) = "by") by decide +kernel, show ¬ (("one" : Str) = "is_sound") by decide +kernel, show ¬ (("one" : Str) = "other") by decide +kernel, show ¬ (("one" : Str) = "later") by decide +kernel, show ¬ (("other" : Str) = "kind") by decide +kernel, show ¬ (("other" : Str) = "_told") by decide +kernel, show ¬ (("other" : Str) = "tool") by decide +kernel, show ¬ (("other" : Str) = "moment") by decide +kernel, show ¬ (("other" : Str) = "by") by decide +kernel, show ¬ (("other" : Str) = "is_sound") by decide +kernel, show ¬ (("other" : Str) = "one") by decide +kernel, show ¬ (("other" : Str) = "later") by decide +kernel, show ¬ (("later" : Str) = "kind") by decide +kernel, show ¬ (("later" : Str) = "_told") by decide +kernel, show ¬ (("later" : Str) = "tool") by decide +kernel, show ¬ (("later" : Str) = "moment") by decide +kernel, show ¬ (("later" : Str) = "by") by decide +kernel, show ¬ (("later" : Str) = "is_sound") by decide +kernel, show ¬ (("later" : Str) = "one") by decide +kernel, show ¬ (("later" : Str) = "other") by decide +kernel, if_true, if_false]), (by simp only [lookup_putF, show ¬ (("kind" : Str) = "_told") by decide +kernel, show ¬ (("kind" : Str) = "tool") by decide +kernel, show ¬ (("kind" : Str) = "moment") by decide +kernel, show ¬ (("kind" : Str) = "by") by decide +kernel, show ¬ (("kind" : Str) = "is_sound") by decide +kernel, show ¬ (("kind" : Str) = "one") by decide +kernel, show ¬ (("kind" : Str) = "other") by decide +kernel, show ¬ (("kind" : Str) = "later") by decide +kernel, show ¬ (("_told" : Str) = "kind") by decide +kernel, show ¬ (("_told" : Str) = "tool") by decide +kernel, show ¬ (("_told" : Str) = "moment") by decide +kernel, show ¬ (("_told" : Str) = "by") by decide +kernel, show ¬ (("_told" : Str) = "is_sound") by decide +kernel, show ¬ (("_told" : Str) = "one") by decide +kernel, show ¬ (("_told" : Str) = "other") by decide +kernel, show ¬ (("_told" : Str) = "later") by decide +kernel, show ¬ (("tool" : Str) = "kind") by decide +kernel, show ¬ (("tool" : Str) = "_told") by decide +kernel, show ¬ (("tool" : Str) = "moment") by decide +kernel, show ¬ (("tool" : Str) = "by") by decide +kernel, show ¬ (("tool" : Str) = "is_sound") by decide +kernel, show ¬ (("tool" : Str) = "one") by decide +kernel, show ¬ (("tool" : Str) = "other") by decide +kernel, show ¬ (("tool" : Str) = "later") by decide +kernel, show ¬ (("moment" : Str) = "kind") by decide +kernel, show ¬ (("moment" : Str) = "_told") by decide +kernel, show ¬ (("moment" : Str) = "tool") by decide +kernel, show ¬ (("moment" : Str) = "by") by decide +kernel, show ¬ (("moment" : Str) = "is_sound") by decide +kernel, show ¬ (("moment" : Str) = "one") by decide +kernel, show ¬ (("moment" : Str) = "other") by decide +kernel, show ¬ (("moment" : Str) = "later") by decide +kernel, show ¬ (("by" : Str) = "kind") by decide +kernel, show ¬ (("by" : Str) = "_told") by decide +kernel, show ¬ (("by" : Str) = "tool") by decide +kernel, show ¬ (("by" : Str) = "moment") by decide +kernel, show ¬ (("by" : Str) = "is_sound") by decide +kernel, show ¬ (("by" : Str) = "one") by decide +kernel, show ¬ (("by" : Str) = "other") by decide +kernel, show ¬ (("by" : Str) = "later") by decide +kernel, show ¬ (("is_sound" : Str) = "kind") by decide +kernel, show ¬ (("is_sound" : Str) = "_told") by decide +kernel, show ¬ (("is_sound" : Str) = "tool") by decide +kernel, show ¬ (("is_sound" : Str) = "moment") by decide +kernel, show ¬ (("is_sound" : Str) = "by") by decide +kernel, show ¬ (("is_sound" : Str) = "one") by decide +kernel, show ¬ (("is_sound" : Str) = "other") by decide +kernel, show ¬ (("is_sound" : Str) = "later") by decide +kernel, show ¬ (("one" : Str) = "kind") by decide +kernel, show ¬ (("one" : Str) = "_told") by decide +kernel, show ¬ (("one" : Str) = "tool") by decide +kernel, show ¬ (("one" : Str) = "moment") by decide +kernel, show ¬ (("one" : Str) = "by") by decide +kernel, show ¬ (("one" : Str) = "is_sound") by decide +kernel, show ¬ (("one" : Str) = "other") by decide +kernel, show ¬ (("one" : Str) = "later") by decide +kernel, show ¬ (("other" : Str) = "kind") by decide +kernel, show ¬ (("other" : Str) = "_told") by decide +kernel, show ¬ (("other" : Str) = "tool") by decide +kernel, show ¬ (("other" : Str) = "moment") by decide +kernel, show ¬ (("other" : Str) = "by") by decide +kernel, show ¬ (("other" : Str) = "is_sound") by decide +kernel, show ¬ (("other" : Str) = "one") by decide +kernel, show ¬ (("other" : Str) = "later") by decide +kernel, show ¬ (("later" : Str) = "kind") by decide +kernel, show ¬ (("later" : Str) = "_told") by decide +kernel, show ¬ (("later" : Str) = "tool") by decide +kernel, show ¬ (("later" : Str) = "moment") by decide +kernel, show ¬ (("later" : Str) = "by") by decide +kernel, show ¬ (("later" : Str) = "is_sound") by decide +kernel, show ¬ (("later" : Str) = "one") by decide +kernel, show ¬ (("later" : Str) = "other") by decide +kernel, if_true, if_false]), (by simp only [lookup_putF, show ¬ (("kind" : Str) = "_told") by decide +kernel, show ¬ (("kind" : Str) = "tool") by decide +kernel, show ¬ (("kind" : Str) = "moment") by decide +kernel, show ¬ (("kind" : Str) = "by") by decide +kernel, show ¬ (("kind" : Str) = "is_sound") by decide +kernel, show ¬ (("kind" : Str) = "one") by decide +kernel, show ¬ (("kind" : Str) = "other") by decide +kernel, show ¬ (("kind" : Str) = "later") by decide +kernel, show ¬ (("_told" : Str) = "kind") by decide +kernel, show ¬ (("_told" : Str) = "tool") by decide +kernel, show ¬ (("_told" : Str) = "moment") by decide +kernel, show ¬ (("_told" : Str) = "by") by decide +kernel, show ¬ (("_told" : Str) = "is_sound") by decide +kernel, show ¬ (("_told" : Str) = "one") by decide +kernel, show ¬ (("_told" : Str) = "other") by decide +kernel, show ¬ (("_told" : Str) = "later") by decide +kernel, show ¬ (("tool" : Str) = "kind") by decide +kernel, show ¬ (("tool" : Str) = "_told") by decide +kernel, show ¬ (("tool" : Str) = "moment") by decide +kernel, show ¬ (("tool" : Str) = "by") by decide +kernel, show ¬ (("tool" : Str) = "is_sound") by decide +kernel, show ¬ (("tool" : Str) = "one") by decide +kernel, show ¬ (("tool" : Str) = "other") by decide +kernel, show ¬ (("tool" : Str) = "later") by decide +kernel, show ¬ (("moment" : Str) = "kind") by decide +kernel, show ¬ (("moment" : Str) = "_told") by decide +kernel, show ¬ (("moment" : Str) = "tool") by decide +kernel, show ¬ (("moment" : Str) = "by") by decide +kernel, show ¬ (("moment" : Str) = "is_sound") by decide +kernel, show ¬ (("moment" : Str) = "one") by decide +kernel, show ¬ (("moment" : Str) = "other") by decide +kernel, show ¬ (("moment" : Str) = "later") by decide +kernel, show ¬ (("by" : Str) = "kind") by decide +kernel, show ¬ (("by" : Str) = "_told") by decide +kernel, show ¬ (("by" : Str) = "tool") by decide +kernel, show ¬ (("by" : Str) = "moment") by decide +kernel, show ¬ (("by" : Str) = "is_sound") by decide +kernel, show ¬ (("by" : Str) = "one") by decide +kernel, show ¬ (("by" : Str) = "other") by decide +kernel, show ¬ (("by" : Str) = "later") by decide +kernel, show ¬ (("is_sound" : Str) = "kind") by decide +kernel, show ¬ (("is_sound" : Str) = "_told") by decide +kernel, show ¬ (("is_sound" : Str) = "tool") by decide +kernel, show ¬ (("is_sound" : Str) = "moment") by decide +kernel, show ¬ (("is_sound" : Str) = "by") by decide +kernel, show ¬ (("is_sound" : Str) = "one") by decide +kernel, show ¬ (("is_sound" : Str) = "other") by decide +kernel, show ¬ (("is_sound" : Str) = "later") by decide +kernel, show ¬ (("one" : Str) = "kind") by decide +kernel, show ¬ (("one" : Str) = "_told") by decide +kernel, show ¬ (("one" : Str) = "tool") by decide +kernel, show ¬ (("one" : Str) = "moment") by decide +kernel, show ¬ (("one" : Str) = "by") by decide +kernel, show ¬ (("one" : Str) = "is_sound") by decide +kernel, show ¬ (("one" : Str) = "other") by decide +kernel, show ¬ (("one" : Str) = "later") by decide +kernel, show ¬ (("other" : Str) = "kind") by decide +kernel, show ¬ (("other" : Str) = "_told") by decide +kernel, show ¬ (("other" : Str) = "tool") by decide +kernel, show ¬ (("other" : Str) = "moment") by decide +kernel, show ¬ (("other" : Str) = "by") by decide +kernel, show ¬ (("other" : Str) = "is_sound") by decide +kernel, show ¬ (("other" : Str) = "one") by decide +kernel, show ¬ (("other" : Str) = "later") by decide +kernel, show ¬ (("later" : Str) = "kind") by decide +kernel, show ¬ (("later" : Str) = "_told") by decide +kernel, show ¬ (("later" : Str) = "tool") by decide +kernel, show ¬ (("later" : Str) = "moment") by decide +kernel, show ¬ (("later" : Str) = "by") by decide +kernel, show ¬ (("later" : Str) = "is_sound") by decide +kernel, show ¬ (("later" : Str) = "one") by decide +kernel, show ¬ (("later" : Str) = "other") by decide +kernel, if_true, if_false]), fun _ h => nomatch h⟩
end
end K14

namespace K14
open PySem PySem.Spec PyProof.Rows L2 So
abbrev sAgreed : Stmt := inClass (topS 39) 0
abbrev sDiffered : Stmt := inClass (topS 40) 0
abbrev sServed : Stmt := inClass (topS 41) 0
abbrev sBacked : Stmt := inClass (topS 42) 0
abbrev metN : List Str := ["self", "one", "moment", "other", "later"]
def supB (sc : Scope) : Bool := decide (sc.kind = .function) && !sc.isCoroutine && !sc.isGenerator && metN.all (fun x => decide (sc.names.lookup x = some .local)) && sc.names.all (fun y => !decide (y.2 = .cell)) && sc.names.all (fun y => !decide (y.2 = .free) || decide (y.1 = "__class__"))
  && decide (sc.names.lookup ("super" : Str) = some .globalImplicit) && decide (sc.names.lookup ("__class__" : Str) = some .free)
theorem supB_ok {sc : Scope} (h : supB sc = true) : SupScope metN sc := by
  unfold supB at h
  simp only [Bool.and_eq_true, Bool.not_eq_true', decide_eq_true_eq, List.all_eq_true, Bool.or_eq_true, decide_eq_false_iff_not] at h
  obtain ⟨⟨⟨⟨⟨⟨⟨h1, h2⟩, h3⟩, h4⟩, h5⟩, h6⟩, h7⟩, h8⟩ := h
  refine ⟨h1, h2, h3, by decide +kernel, h4, h5, fun y hy => ?_, h7, h8⟩
  rcases h6 (y, .free) (PySem.mem_of_lookup hy) with z | z
  · exact absurd rfl z
  · exact z
section
variable {P : Program} {w : World} {K : PySem.W.Frag} {mg : Str → Option Value} {base : Heap}
theorem ok_Agreed {CN CM CS C D cc f fM : Addr} {cd : Value} {fd fdM : FuncData} (F : SupFn K P "__init__" "Agreed.__init__" (defArgs sAgreed) (defBody sAgreed) (defScope sAgreed) D cc f cd fd) (hsup : mg "super" = none) (sub : PySem.W.mroIn K C (.ref D) = some true) (hcl : ∃ cdC, PySem.W.clsIn K C = some cdC)
    (hm : PySem.W.ks_superIn K C D "__init__" = some (some (.ref fM))) (ht : PySem.W.typeIn K (.ref fM) = some (.type "function")) (hfn : PySem.W.fnIn K fM = true) (bM : Binds K fdM ["self", "kind", "one", "moment", "other", "later"] []) (GM : FnOk P w K mg base (L2.CX P w) 5 fM fdM ["self", "kind", "one", "moment", "other", "later"] (spMeet CN CM CS C)) :
    FnOk P w K mg base (L2.CX P w) 6 f fd metN (spRow CN CM CS C "agreed") := by
  have hl4 : (formsOf "agreed").length = 4 := by decide +kernel
  refine (ok_super (C := C) (ps := metN) F (supB_ok (by decide +kernel)) rfl (by rfl) hsup sub hcl hm ht hfn (by decide +kernel) GM bM (fun A outer s H E => pa_cons pe_str (pa_cons (pv 1) (pa_cons (pv 2) (pa_cons (pv 3) (pa_cons (pv 4) pa_nil))))) (fun _ => rfl) (fun _ => rfl) (fun _ => rfl) (fun _ => rfl)).imp fun vs H Q E h => ?_
  obtain ⟨x, dx, xs, rfl, hx, hl, hg, qw⟩ := h
  obtain ⟨v0, v1, v2, v3, rfl⟩ : ∃ v0 v1 v2 v3, xs = [v0, v1, v2, v3] := by
    rw [hl4] at hl
    match xs, hl with
    | [v0, v1, v2, v3], _ => exact ⟨_, _, _, _, rfl⟩
  exact ⟨rfl, x, dx, [], [v0, v1, v2, v3], rfl, hx, _, rfl, _, rfl, _, rfl, _, rfl, x, dx, "agreed", [v0, v1, v2, v3], rfl, by decide +kernel, hx, hl, hg, qw⟩
theorem ok_Differed {CN CM CS C D cc f fM : Addr} {cd : Value} {fd fdM : FuncData} (F : SupFn K P "__init__" "Differed.__init__" (defArgs sDiffered) (defBody sDiffered) (defScope sDiffered) D cc f cd fd) (hsup : mg "super" = none) (sub : PySem.W.mroIn K C (.ref D) = some true) (hcl : ∃ cdC, PySem.W.clsIn K C = some cdC)
    (hm : PySem.W.ks_superIn K C D "__init__" = some (some (.ref fM))) (ht : PySem.W.typeIn K (.ref fM) = some (.type "function")) (hfn : PySem.W.fnIn K fM = true) (bM : Binds K fdM ["self", "kind", "one", "moment", "other", "later"] []) (GM : FnOk P w K mg base (L2.CX P w) 5 fM fdM ["self", "kind", "one", "moment", "other", "later"] (spMeet CN CM CS C)) :
    FnOk P w K mg base (L2.CX P w) 6 f fd metN (spRow CN CM CS C "differed") := by
  have hl4 : (formsOf "differed").length = 4 := by decide +kernel
  refine (ok_super (C := C) (ps := metN) F (supB_ok (by decide +kernel)) rfl (by rfl) hsup sub hcl hm ht hfn (by decide +kernel) GM bM (fun A outer s H E => pa_cons pe_str (pa_cons (pv 1) (pa_cons (pv 2) (pa_cons (pv 3) (pa_cons (pv 4) pa_nil))))) (fun _ => rfl) (fun _ => rfl) (fun _ => rfl) (fun _ => rfl)).imp fun vs H Q E h => ?_
  obtain ⟨x, dx, xs, rfl, hx, hl, hg, qw⟩ := h
  obtain ⟨v0, v1, v2, v3, rfl⟩ : ∃ v0 v1 v2 v3, xs = [v0, v1, v2, v3] := by
    rw [hl4] at hl
    match xs, hl with
    | [v0, v1, v2, v3], _ => exact ⟨_, _, _, _, rfl⟩
  exact ⟨rfl, x, dx, [], [v0, v1, v2, v3], rfl, hx, _, rfl, _, rfl, _, rfl, _, rfl, x, dx, "differed", [v0, v1, v2, v3], rfl, by decide +kernel, hx, hl, hg, qw⟩
theorem ok_Served {CN CM CS C D cc f fM : Addr} {cd : Value} {fd fdM : FuncData} (F : SupFn K P "__init__" "Served.__init__" (defArgs sServed) (defBody sServed) (defScope sServed) D cc f cd fd) (hsup : mg "super" = none) (sub : PySem.W.mroIn K C (.ref D) = some true) (hcl : ∃ cdC, PySem.W.clsIn K C = some cdC)
    (hm : PySem.W.ks_superIn K C D "__init__" = some (some (.ref fM))) (ht : PySem.W.typeIn K (.ref fM) = some (.type "function")) (hfn : PySem.W.fnIn K fM = true) (bM : Binds K fdM ["self", "kind", "one", "moment", "other", "later"] []) (GM : FnOk P w K mg base (L2.CX P w) 5 fM fdM ["self", "kind", "one", "moment", "other", "later"] (spMeet CN CM CS C)) :
    FnOk P w K mg base (L2.CX P w) 6 f fd metN (spRow CN CM CS C "served") := by
  have hl4 : (formsOf "served").length = 4 := by decide +kernel
  refine (ok_super (C := C) (ps := metN) F (supB_ok (by decide +kernel)) rfl (by rfl) hsup sub hcl hm ht hfn (by decide +kernel) GM bM (fun A outer s H E => pa_cons pe_str (pa_cons (pv 1) (pa_cons (pv 2) (pa_cons (pv 3) (pa_cons (pv 4) pa_nil))))) (fun _ => rfl) (fun _ => rfl) (fun _ => rfl) (fun _ => rfl)).imp fun vs H Q E h => ?_
  obtain ⟨x, dx, xs, rfl, hx, hl, hg, qw⟩ := h
  obtain ⟨v0, v1, v2, v3, rfl⟩ : ∃ v0 v1 v2 v3, xs = [v0, v1, v2, v3] := by
    rw [hl4] at hl
    match xs, hl with
    | [v0, v1, v2, v3], _ => exact ⟨_, _, _, _, rfl⟩
  exact ⟨rfl, x, dx, [], [v0, v1, v2, v3], rfl, hx, _, rfl, _, rfl, _, rfl, _, rfl, x, dx, "served", [v0, v1, v2, v3], rfl, by decide +kernel, hx, hl, hg, qw⟩
theorem ok_Backed {CN CM CS C D cc f fM : Addr} {cd : Value} {fd fdM : FuncData} (F : SupFn K P "__init__" "Backed.__init__" (defArgs sBacked) (defBody sBacked) (defScope sBacked) D cc f cd fd) (hsup : mg "super" = none) (sub : PySem.W.mroIn K C (.ref D) = some true) (hcl : ∃ cdC, PySem.W.clsIn K C = some cdC)
    (hm : PySem.W.ks_superIn K C D "__init__" = some (some (.ref fM))) (ht : PySem.W.typeIn K (.ref fM) = some (.type "function")) (hfn : PySem.W.fnIn K fM = true) (bM : Binds K fdM ["self", "kind", "one", "moment", "other", "later"] []) (GM : FnOk P w K mg base (L2.CX P w) 5 fM fdM ["self", "kind", "one", "moment", "other", "later"] (spMeet CN CM CS C)) :
    FnOk P w K mg base (L2.CX P w) 6 f fd metN (spRow CN CM CS C "backed") := by
  have hl4 : (formsOf "backed").length = 4 := by decide +kernel
  refine (ok_super (C := C) (ps := metN) F (supB_ok (by decide +kernel)) rfl (by rfl) hsup sub hcl hm ht hfn (by decide +kernel) GM bM (fun A outer s H E => pa_cons pe_str (pa_cons (pv 1) (pa_cons (pv 2) (pa_cons (pv 3) (pa_cons (pv 4) pa_nil))))) (fun _ => rfl) (fun _ => rfl) (fun _ => rfl) (fun _ => rfl)).imp fun vs H Q E h => ?_
  obtain ⟨x, dx, xs, rfl, hx, hl, hg, qw⟩ := h
  obtain ⟨v0, v1, v2, v3, rfl⟩ : ∃ v0 v1 v2 v3, xs = [v0, v1, v2, v3] := by
    rw [hl4] at hl
    match xs, hl with
    | [v0, v1, v2, v3], _ => exact ⟨_, _, _, _, rfl⟩
  exact ⟨rfl, x, dx, [], [v0, v1, v2, v3], rfl, hx, _, rfl, _, rfl, _, rfl, _, rfl, x, dx, "backed", [v0, v1, v2, v3], rfl, by decide +kernel, hx, hl, hg, qw⟩
end
end K14

namespace K14
open PySem PySem.Spec PyProof.Rows L2 So
abbrev sOddN : Stmt := topS 51
theorem scOddN : FnScope ["_law_pen_here", "_law_some"] ["_law_pen_here"] (defScope sOddN) := ⟨rfl, rfl, rfl, by decide +kernel, rfl, by decide +kernel, by decide +kernel⟩
/-! ### the odd values -/
def flatD : V → Option PyData
  | .non => some .none
  | .bl b => some (.bool b)
  | .int i => some (.int i)
  | .str z => some (.str z)
  | _ => none
def flatDs : List V → Option (List PyData)
  | [] => some []
  | v :: r => match flatD v, flatDs r with
    | some d, some ds => some (d :: ds)
    | _, _ => none
def okD (d : PyData) : Prop := d.showable = true ∧ d.depth ≤ 10 ∧ d.shown.length ≤ 1000
inductive Od (H : Hp) : V → Prop where
  | flat {v : V} {d : PyData} (h : flatD v = some d) (o : okD d) (s : ∀ z, v = .str z → z.length ≤ 2000) : Od H v
  | lst {a : Addr} {xs : List V} {ds : List PyData} (e : H a = some (.lst xs)) (h : flatDs xs = some ds) (o : okD (.list ds)) : Od H (.ref a)
  | tup {a : Addr} {xs : List V} {ds : List PyData} (e : H a = some (.tup xs)) (h : flatDs xs = some ds) (o : okD (.tuple ds)) : Od H (.ref a)
  | mt {a : Addr} (e : H a = some (.dK [])) : Od H (.ref a)
theorem Od.gv {H : Hp} {v : V} (h : Od H v) : ∃ T, Gv H v T := by
  cases h with
  | flat h o s =>
    cases v with
    | non => exact ⟨_, .non⟩
    | bl b => exact ⟨_, .bl b⟩
    | int i => exact ⟨_, .int i⟩
    | str z => exact ⟨_, .str z (s z rfl)⟩
    | _ => cases h
  | lst e h o => exact ⟨_, .lst e⟩
  | tup e h o => exact ⟨_, .tup e⟩
  | mt e => exact ⟨_, .dK e⟩
theorem Od.same {H H' : Hp} {v : V} (h : Od H v) (s : Same H H') : Od H' v := by
  cases h with
  | flat h o z => exact .flat h o z
  | lst e h o => exact .lst (s _ _ e) h o
  | tup e h o => exact .tup (s _ _ e) h o
  | mt e => exact .mt (s _ _ e)
theorem Od.off {H H' : Hp} {p l : Addr} {x y v : V} (h : Od H v) (hp : H p = some (.lst [.ref l, x, y])) (s : Off p H H') : Od H' v := by
  cases h with
  | flat h o z => exact .flat h o z
  | @lst a xs ds e h o =>
    refine .lst (s _ _ (fun z => ?_) e) h o
    subst z
    rw [hp] at e
    cases e
    cases h
  | tup e h o => exact .tup (s _ _ (ne_of e hp (fun z => nomatch z)) e) h o
  | mt e => exact .mt (s _ _ (ne_of e hp (fun z => nomatch z)) e)
section
variable {K : PySem.W.Frag}
theorem flatD_dp {H : Hp} {v : V} {d : PyData} (h : flatD v = some d) : Dp K H v d := by
  cases v with
  | non => cases h; exact .non
  | bl b => cases h; exact .bl b
  | int i => cases h; exact .int i
  | str z => cases h; exact .str z
  | _ => cases h
theorem flatDs_dp {H : Hp} : ∀ {xs : List V} {ds : List PyData}, flatDs xs = some ds → DpAll K H xs ds
  | [], ds, h => by
    cases h
    exact .nil
  | v :: r, ds, h => by
    unfold flatDs at h
    split at h
    · rename_i d es h1 h2
      cases h
      exact .cons (flatD_dp h1) (flatDs_dp h2)
    · cases h
theorem Od.dp {H : Hp} {v : V} (h : Od H v) : (∃ d, Dp K H v d ∧ okD d) ∨ ∃ a, v = .ref a ∧ H a = some (.dK []) := by
  cases h with
  | flat h o s => exact .inl ⟨_, flatD_dp h, o⟩
  | lst e h o => exact .inl ⟨_, .lst (SqL.of e) (flatDs_dp h), o⟩
  | tup e h o => exact .inl ⟨_, .tup (SqT.of e) (flatDs_dp h), o⟩
  | mt e => exact .inr ⟨_, rfl, e⟩
end
theorem Od.non {H : Hp} : Od H .non := .flat rfl ⟨rfl, by decide, by decide +kernel⟩ (fun _ h => nomatch h)
theorem Od.bl {H : Hp} (b : Bool) : Od H (.bl b) := .flat rfl ⟨rfl, Nat.zero_le _, by cases b <;> decide +kernel⟩ (fun _ h => nomatch h)
theorem okStr {z : Str} (h : (decide (z.length ≤ 2000) && decide ((reprText z).length ≤ 1000)) = true) {H : Hp} : Od H (.str z) := by
  rw [Bool.and_eq_true] at h
  exact .flat rfl ⟨rfl, Nat.zero_le _, of_decide_eq_true h.2⟩ (fun y e => by cases e; exact of_decide_eq_true h.1)
theorem words_ok : ∀ z ∈ noNames, (decide (z.length ≤ 2000) && decide ((reprText z).length ≤ 1000)) = true := by decide +kernel
theorem words_no : ∀ z ∈ noNames, isName z = false := by decide +kernel
theorem mono {H : Hp} {p q : Addr} {o : HO} (h : H q = none) (hp : H p ≠ none) : p ≠ q := fun z => hp (by rw [z]; exact h)
section
variable {P : Program} {w : World} {K : PySem.W.Frag} {mg : Str → Option Value} {base : Heap}
/-- an odd value for a test g -/
def spOdd (g : V → Bool) : Sp := fun vs H Q _ => ∃ (p l : Addr) (ns : List Int) (n : Nat) (gr : Int), vs = [.ref p] ∧ Pen H p l ns n gr ∧ n < 999000 ∧
  ∀ (v : V) (n' : Nat) (g' : Int) (H' : Hp), g v = false → Od H' v → (∀ b, v = .ref b → H b = none) → n' ≤ n + 2 → Off p H H' → Pen H' p l ns n' g' → Q v H'
theorem ok_oddN {f fP fW : Addr} {fd fdP fdW : FuncData} (F : Fun K "_law_odd_name" "_law_odd_name" sOddN f fd) (FP : Fun K "_law_pick" "_law_pick" sPick fP fdP) (bP : Binds K fdP ["_law_pen_here", "_law_some"] []) (gP : mg "_law_pick" = some (.ref fP))
    (GP : FnOk P w K mg base CX0 2 fP fdP ["_law_pen_here", "_law_some"] (spPick K)) (FW : Fun K "_law_words" "_law_words" sWords fW fdW) (bW : Binds K fdW [] []) (gW : mg "_law_words" = some (.ref fW)) (GW : FnOk P w K mg base CX0 1 fW fdW [] spWords) :
    FnOk P w K mg base CX0 3 f fd ["_law_pen_here"] (spOdd gNam) := by
  refine F.ok scOddN (fun vs H Q E h => ?_) (fun cdv A outer s H vs Q E hr h => ?_)
  · obtain ⟨p, l, ns, n, g, rfl, _⟩ := h
    rfl
  · obtain ⟨p, l, ns, n, g, rfl, hp, hn, k⟩ := h
    have hr1 : Room 1 _ := hr.mono (by decide)
    refine ⟨_, pss_cons (ps_set (i := 1) scOddN.nd rfl (.inl rfl) (pe_lst (pa_cons pe_str (pa_cons pe_str (pa_cons pe_str (pa_cons pe_str (pa_cons pe_str (pa_cons pe_str (pa_cons pe_str (pa_cons pe_str (pa_cons pe_str (pa_cons pe_str (pa_cons pe_non (pa_cons pe_int (pa_cons pe_bl (pa_cons (pe_lst (pa_cons pe_str pa_nil)) (pa_cons (pe_tup (pa_cons pe_str pa_nil)) (pa_cons pe_dnewK pa_nil))))))))))))))))))
      (pss_one (ps_ret (pe_call GP hr (by rfl) gP FP.kp bP .nil pass0 (pa_cons (pv 0) (pa_cons (pe_op op_cat (pv 1) (pe_op op_rep (pe_lst (pa_cons (pe_call GP hr (by rfl) gP FP.kp bP .nil pass0 (pa_cons (pv 0) (pa_cons (pe_call0 GW hr1 (by rfl) gW FW.kp bW .nil pass0) pa_nil))) pa_nil)) pe_int)) pa_nil))))), ?_⟩
    refine ⟨by show 1 ≤ sizeLine; decide, fun a1 h1 => ⟨by show 1 ≤ sizeLine; decide, fun a2 h2 => fun a3 h3 => ⟨by show 16 ≤ sizeLine; decide, fun s1 h4 => ?_⟩⟩⟩
    have s01 := same_upd0 (o := .lst [.str "a"]) h1
    have s12 := same_upd0 (o := .tup [.str "a"]) h2
    have s23 := same_upd0 (o := .dK []) h3
    generalize hxs : [V.str "", V.str "A", V.str "9a", V.str "a-b", V.str "abcdefghi", V.str "a b", V.str "a.", V.str " a", V.str "a ", V.str "a\n", V.non, V.int 3, V.bl true, V.ref a1, V.ref a2, V.ref a3] = xs
    have len : xs.length = 16 := by rw [← hxs]; rfl
    generalize hH : upd (upd (upd (upd H a1 (.lst [.str "a"])) a2 (.tup [.str "a"])) a3 (.dK [])) s1 (.lst xs) = H4
    have s34 : Same (upd (upd (upd H a1 (.lst [.str "a"])) a2 (.tup [.str "a"])) a3 (.dK [])) H4 := by rw [← hH]; exact same_upd0 h4
    have sm : Same H H4 := ((s01.trans s12).trans s23).trans s34
    have hS : H4 s1 = some (.lst xs) := by rw [← hH]; exact upd_same
    have e1 : H4 a1 = some (.lst [.str "a"]) := s34 _ _ (s23 _ _ (s12 _ _ upd_same))
    have e2 : H4 a2 = some (.tup [.str "a"]) := s34 _ _ (s23 _ _ upd_same)
    have e3 : H4 a3 = some (.dK []) := s34 _ _ upd_same
    have key : ∀ x ∈ xs, Od H4 x ∧ gNam x = false := by
      rw [← hxs]
      simp only [List.forall_mem_cons]
      exact ⟨⟨okStr (by decide +kernel), by decide +kernel⟩, ⟨okStr (by decide +kernel), by decide +kernel⟩, ⟨okStr (by decide +kernel), by decide +kernel⟩, ⟨okStr (by decide +kernel), by decide +kernel⟩, ⟨okStr (by decide +kernel), by decide +kernel⟩, ⟨okStr (by decide +kernel), by decide +kernel⟩, ⟨okStr (by decide +kernel), by decide +kernel⟩, ⟨okStr (by decide +kernel), by decide +kernel⟩, ⟨okStr (by decide +kernel), by decide +kernel⟩, ⟨okStr (by decide +kernel), by decide +kernel⟩, ⟨.non, rfl⟩, ⟨.flat rfl ⟨by decide +kernel, Nat.zero_le _, by decide +kernel⟩ (fun _ h => nomatch h), rfl⟩, ⟨.bl true, rfl⟩, ⟨.lst e1 rfl ⟨by decide +kernel, by decide +kernel, by decide +kernel⟩, rfl⟩, ⟨.tup e2 rfl ⟨by decide +kernel, by decide +kernel, by decide +kernel⟩, rfl⟩, ⟨.mt e3, rfl⟩, fun _ h => nomatch h⟩
    have ns1 : s1 ≠ p := fun z => by
      have := ((s01.trans s12).trans s23) _ _ hp.pen
      rw [← z] at this
      exact Option.some_ne_none _ (this.symm.trans h4)
    have new : ∀ x ∈ xs, ∀ b, x = .ref b → H b = none := by
      rw [← hxs]
      simp only [List.forall_mem_cons]
      exact ⟨(fun _ h => nomatch h), (fun _ h => nomatch h), (fun _ h => nomatch h), (fun _ h => nomatch h), (fun _ h => nomatch h), (fun _ h => nomatch h), (fun _ h => nomatch h), (fun _ h => nomatch h), (fun _ h => nomatch h), (fun _ h => nomatch h), (fun _ h => nomatch h), (fun _ h => nomatch h), (fun _ h => nomatch h), (fun b e => by cases e; exact h1), (fun b e => by cases e; exact s01.free h2), (fun b e => by cases e; exact (s01.trans s12).free h3), fun _ h => nomatch h⟩
    clear hxs hH
    refine ⟨_, rfl, _, rfl, _, rfl, rfl, fun H5 aW s5 nW hW => ?_⟩
    have naW : aW ≠ p := fun z => by
      have := sm _ _ hp.pen
      rw [← z] at this
      exact Option.some_ne_none _ (this.symm.trans nW)
    have pen5 : Pen H5 p l ns n g := ⟨s5 _ _ (sm _ _ hp.pen), s5 _ _ (sm _ _ hp.cells), hp.left⟩
    refine ⟨p, l, ns, n, g, _, rfl, pen5, by omega, .inl ⟨aW, _, rfl, naW, hW, (by show 0 < 20; decide), (by show 20 ≤ 1000; decide), fun v n6 g6 H6 hv hn6 off6 pen6 => ?_⟩⟩
    have hS6 : H6 s1 = some (.lst xs) := off6 _ _ ns1 (s5 _ _ hS)
    have key6 : ∀ x ∈ xs, Od H6 x ∧ gNam x = false := fun x hx => ⟨((key x hx).1.same s5).off pen5.pen off6, (key x hx).2⟩
    obtain ⟨z, hz, rfl⟩ := List.mem_map.mp hv
    have offH : Off p H H6 := Off.trans (fun b o _ e => s5 b o (sm b o e)) off6
    clear hS key pen5 hW s34 e1 e2 e3
    refine ⟨by show 1 ≤ sizeLine; decide, fun q1 h7 => ?_⟩
    refine ⟨q1, 3, _, rfl, rfl, upd_same, by decide, by decide, by show 3 ≤ sizeLine; decide, fun q2 h8 => ?_⟩
    have s78 := (same_upd0 (o := .lst [.str z]) h7).trans (same_upd0 (o := .lst (List.replicate (Int.toNat 3) [V.str z]).flatten) h8)
    refine ⟨s1, q2, xs, _, rfl, rfl, s78 _ _ hS6, upd_same, ?_, fun q3 h9 => ?_⟩
    · rw [len]
      show 16 + 3 ≤ sizeLine
      decide
    have s9 := s78.trans (same_upd0 (o := .lst (xs ++ (List.replicate (Int.toNat 3) [V.str z]).flatten)) h9)
    have n3 : q3 ≠ p := fun y => by
      have := s78 _ _ pen6.pen
      rw [← y] at this
      exact Option.some_ne_none _ (this.symm.trans h9)
    have pen9 : Pen _ p l ns n6 g6 := ⟨s9 _ _ pen6.pen, s9 _ _ pen6.cells, pen6.left⟩
    refine ⟨p, l, ns, n6, g6, _, rfl, pen9, by omega, .inl ⟨q3, _, rfl, n3, upd_same, ?_, ?_, fun v n10 g10 H10 hv10 hn10 off10 pen10 => ?_⟩⟩
    · rw [List.length_append, len]
      exact Nat.lt_of_lt_of_le (by decide : 0 < 16) (Nat.le_add_right _ _)
    · rw [List.length_append, len]
      show 16 + 3 ≤ 1000
      decide
    · have hg : (Od H10 v ∧ gNam v = false) ∧ ∀ b, v = .ref b → H b = none := by
        rcases List.mem_append.mp hv10 with h | h
        · exact ⟨⟨((key6 v h).1.same s9).off pen9.pen off10, (key6 v h).2⟩, new v h⟩
        · have e : v = .str z := by
            have h' : v ∈ [V.str z, V.str z, V.str z] := h
            simp only [List.mem_cons, List.not_mem_nil, or_false, or_self] at h'
            exact h'
          subst e
          exact ⟨⟨okStr (words_ok z hz), words_no z hz⟩, fun _ h => nomatch h⟩
      exact k v n10 g10 H10 hg.1.2 hg.1.1 hg.2 (by omega) (offH.trans (Off.trans (fun b o _ e => s9 b o e) off10)) pen10
end
end K14

/-! repr of data with dicts: each thing's text built by itself, so that no more is asked of an address than that a dict is not the modules' own. -/
namespace So
open PySem PySem.Spec PyProof.Rows L2
mutual
/-- a value is this data; dicts with texts as keys may stand in it -/
inductive Dd (K : PySem.W.Frag) (H : Hp) : V → PyData → Prop
  | non : Dd K H .non .none
  | bl (b : Bool) : Dd K H (.bl b) (.bool b)
  | int (i : Int) : Dd K H (.int i) (.int i)
  | str (x : Str) : Dd K H (.str x) (.str x)
  | lst {a : Addr} {xs : List V} {ds : List PyData} (e : SqL K H a xs) (h : DdAll K H xs ds) : Dd K H (.ref a) (.list ds)
  | tup {a : Addr} {xs : List V} {ds : List PyData} (e : SqT K H a xs) (h : DdAll K H xs ds) : Dd K H (.ref a) (.tuple ds)
  | dct {a : Addr} {kvs : List (Key × V)} {ds : List (PyData × PyData)} (e : H a = some (.dK kvs)) (h : DdKv K H kvs ds) : Dd K H (.ref a) (.dict ds)
inductive DdAll (K : PySem.W.Frag) (H : Hp) : List V → List PyData → Prop
  | nil : DdAll K H [] []
  | cons {v : V} {vs : List V} {d : PyData} {ds : List PyData} (h : Dd K H v d) (t : DdAll K H vs ds) : DdAll K H (v :: vs) (d :: ds)
inductive DdKv (K : PySem.W.Frag) (H : Hp) : List (Key × V) → List (PyData × PyData) → Prop
  | nil : DdKv K H [] []
  | cons {k : Str} {v : V} {r : List (Key × V)} {d : PyData} {ds : List (PyData × PyData)} (h : Dd K H v d) (t : DdKv K H r ds) : DdKv K H ((Sum.inr k, v) :: r) ((.str k, d) :: ds)
end
section
variable {X : Cx} {pins : List (Addr × Obj)} {σ : L2.St} {H : Hp} {s : Shared}
/-- a thing in memory that shows so -/
def ShK (X : Cx) (h : Heap) (u : Value) (d : PyData) : Prop := ∃ as bs, Reads h u d as ∧ ReadAtMost h d.depth bs ∧ ReprK X.prog X.w bs h d.depth u d.shown
def ShAll (X : Cx) (h : Heap) (us : List Value) (ds : List PyData) : Prop := ∃ as bs, ReadsAll h us ds as ∧ ReadAtMost h (PyData.depthAll ds) bs ∧ ReprAllK X.prog X.w bs h (PyData.depthAll ds) us (PyData.shownAll ds)
theorem shAll_cons {h : Heap} {u : Value} {us : List Value} {d : PyData} {ds : List PyData} (a : ShK X h u d) (b : ShAll X h us ds) : ShAll X h (u :: us) (d :: ds) := by
  obtain ⟨as1, b1, r1, hb1, k1⟩ := a
  obtain ⟨as2, b2, r2, hb2, k2⟩ := b
  refine ⟨_, b1 ++ b2, .cons r1 r2, ?_, ?_⟩
  · intro b hm
    simp only [PyData.depthAll]
    rcases List.mem_append.mp hm with hm | hm
    · obtain ⟨d', as', r', hd'⟩ := hb1 b hm
      exact ⟨d', as', r', Nat.le_trans hd' (Nat.le_max_left _ _)⟩
    · obtain ⟨d', as', r', hd'⟩ := hb2 b hm
      exact ⟨d', as', r', Nat.le_trans hd' (Nat.le_max_right _ _)⟩
  · simp only [PyData.depthAll, PyData.shownAll]
    exact .cons ((k1.more fun b hb => List.mem_append_left _ hb).level_le (Nat.le_max_left _ _)) (k2.more_le (fun b hb => List.mem_append_right _ hb) (Nat.le_max_right _ _))
theorem shAll_nil {h : Heap} : ShAll X h [] [] := ⟨_, [], .nil, (fun _ h => nomatch h), by simp only [PyData.shownAll]; exact .nil⟩
mutual
theorem Dd.sh (I : Inv X pins σ H s) : ∀ (d : PyData) (v : V) (u : Value), Dd X.K H v d → RelV v u → d.showable = true → d.shown.length ≤ sizeLine → ShK X s.heap u d
  | .none, _, _, h, r, _, _ => by
    cases h
    cases r
    exact ⟨_, [], .none, (fun _ h => nomatch h), by simp only [PyData.shown]; exact .of_is ReprIs.none _ _ _⟩
  | .bool b, _, _, h, r, _, _ => by
    cases h
    cases r
    exact ⟨_, [], .bool b, (fun _ h => nomatch h), by simp only [PyData.shown]; exact .of_is (ReprIs.bool b) _ _ _⟩
  | .int i, _, _, h, r, hs, _ => by
    cases h
    obtain ⟨t, rfl⟩ := r
    exact ⟨_, [], .int i t, (fun _ h => nomatch h), by simp only [PyData.shown]; exact .of_is (ReprIs.int t (by simpa [PyData.showable] using hs)) _ _ _⟩
  | .str x, _, _, h, r, _, hz => by
    cases h
    obtain ⟨t, rfl⟩ := r
    exact ⟨_, [], .str x t, (fun _ h => nomatch h), by simp only [PyData.shown]; exact .of_is (ReprIs.str x t (by simpa only [PyData.shown] using hz)) _ _ _⟩
  | .list ds, _, _, h, r, hs, hz => by
    cases h with
    | @lst a xs _ e hall =>
      cases r
      have hz' : (listText (PyData.shownAll ds)).length ≤ sizeLine := by simpa only [PyData.shown] using hz
      obtain ⟨its, rv, ⟨o, n, h1, h2, _, h3⟩, _⟩ := I.list e
      obtain ⟨as, bs, rd, hb, hk⟩ := DdAll.sh I ds xs its hall rv (by simpa [PyData.showable] using hs) (fun t ht => Nat.le_trans (listText_mem_le ht) hz')
      have rr : Reads s.heap (.ref a) (.list ds) _ := .list h1 h2 h3 rd
      have hna : a ∉ bs := not_mem_of_deeper rr (by simp only [PyData.depth]; omega) hb
      refine ⟨_, a :: bs, rr, ReadAtMost.cons rr (by simp only [PyData.depth]; omega) hb, ?_⟩
      simp only [PyData.depth, PyData.shown]
      cases its with
      | nil =>
        cases rd
        simp only [PyData.shownAll, listText_nil]
        exact ReprK.listEmpty h1 h2 h3
      | cons x l => exact ReprK.list h1 h2 h3 hna (by simpa using hk.length_eq) (fun i y e => hk.item i y (by simpa using e))
  | .tuple ds, _, _, h, r, hs, hz => by
    cases h with
    | @tup a xs _ e hall =>
      cases r
      have hz' : (tupleText (PyData.shownAll ds)).length ≤ sizeLine := by simpa only [PyData.shown] using hz
      obtain ⟨its, rv, ⟨o, h1, h2, n, h3⟩, _⟩ := I.tuple e
      obtain ⟨as, bs, rd, hb, hk⟩ := DdAll.sh I ds xs its hall rv (by simpa [PyData.showable] using hs) (fun t ht => Nat.le_trans (tupleText_mem_le ht) hz')
      have rr : Reads s.heap (.ref a) (.tuple ds) _ := .tuple h1 h2 h3 rd
      have hna : a ∉ bs := not_mem_of_deeper rr (by simp only [PyData.depth]; omega) hb
      refine ⟨_, a :: bs, rr, ReadAtMost.cons rr (by simp only [PyData.depth]; omega) hb, ?_⟩
      simp only [PyData.depth, PyData.shown]
      exact ReprK.tuple h1 h2 h3 hna hk
  | .dict ds, _, _, h, r, hs, hz => by
    cases h with
    | @dct a kvs _ e hall =>
      cases r
      have hz' : (dictText (PyData.shownKv ds)).length ≤ sizeLine := by simpa only [PyData.shown] using hz
      obtain ⟨_, hsys, vs, hk, hD⟩ : kvs.length ≤ sizeLine ∧ (a == sysModules) = false ∧ ∃ vs, KV kvs vs ∧ s.heap.DictOf (mixKind X.prog X.w) a vs := I.hok a _ e
      obtain ⟨o, es, ep, h1, h2, h3, _, e5, _⟩ := hD
      obtain ⟨hs1, hs2⟩ := PyData.showableKv_split ds (by simpa [PyData.showable] using hs)
      obtain ⟨⟨as1, b1, r1, hb1, k1⟩, as2, b2, r2, hb2, k2⟩ := DdKv.sh I ds kvs vs es.toList hall hk e5 hs1 hs2
        (fun t ht => let ⟨p, hp, hl⟩ := PyData.shownKv_key_le ds t ht; Nat.le_trans hl (Nat.le_trans (dictText_mem_le hp) hz')) (fun t ht => let ⟨p, hp, hl⟩ := PyData.shownKv_val_le ds t ht; Nat.le_trans hl (Nat.le_trans (dictText_mem_le hp) hz'))
      have rr : Reads s.heap (.ref a) (.dict ds) _ := .dict h1 h2.1 h3 r1 r2
      have hb : ReadAtMost s.heap (PyData.depthKv ds) (b1 ++ b2) := (hb1.mono (PyData.depthAll_keys_le ds)).append (hb2.mono (PyData.depthAll_vals_le ds))
      have hna : a ∉ b1 ++ b2 := not_mem_of_deeper rr (by simp only [PyData.depth]; omega) hb
      refine ⟨_, a :: (b1 ++ b2), rr, ReadAtMost.cons rr (by simp only [PyData.depth]; omega) hb, ?_⟩
      simp only [PyData.depth, PyData.shown, PyData.shownKv_eq]
      exact ReprK.dict h1 h2.1 h3 hsys hna (ReprEntriesK.of_two es.toList _ _
        (k1.more_le (fun b hb => List.mem_append_left _ hb) (PyData.depthAll_keys_le ds)) (k2.more_le (fun b hb => List.mem_append_right _ hb) (PyData.depthAll_vals_le ds)))
theorem DdAll.sh (I : Inv X pins σ H s) : ∀ (ds : List PyData) (vs : List V) (us : List Value), DdAll X.K H vs ds → Vals vs us → PyData.showableAll ds = true → (∀ t ∈ PyData.shownAll ds, t.length ≤ sizeLine) → ShAll X s.heap us ds
  | [], _, _, h, r, _, _ => by
    cases h
    cases r
    exact shAll_nil
  | d :: ds, _, _, h, r, hs, hz => by
    cases h with
    | cons h1 h2 =>
      cases r with
      | cons r1 r2 =>
        have hs' : d.showable = true ∧ PyData.showableAll ds = true := by simpa [PyData.showableAll] using hs
        exact shAll_cons (Dd.sh I d _ _ h1 r1 hs'.1 (hz _ (by simp only [PyData.shownAll]; exact List.mem_cons_self ..))) (DdAll.sh I ds _ _ h2 r2 hs'.2 fun t ht => hz t (by simp only [PyData.shownAll]; exact List.mem_cons_of_mem _ ht))
theorem DdKv.sh (I : Inv X pins σ H s) : ∀ (ds : List (PyData × PyData)) (kvs : List (Key × V)) (vs : List (Key × Value)) (es : List DictEntry), DdKv X.K H kvs ds → KV kvs vs → Pairs (mixKind X.prog X.w) es vs → PyData.showableAll (ds.map (·.1)) = true → PyData.showableAll (ds.map (·.2)) = true →
    (∀ t ∈ PyData.shownAll (ds.map (·.1)), t.length ≤ sizeLine) → (∀ t ∈ PyData.shownAll (ds.map (·.2)), t.length ≤ sizeLine) → ShAll X s.heap (es.map (·.key)) (ds.map (·.1)) ∧ ShAll X s.heap (es.map (·.val)) (ds.map (·.2))
  | [], _, _, _, h, hk, hp, _, _, _, _ => by
    cases h
    cases hk
    cases hp
    exact ⟨shAll_nil, shAll_nil⟩
  | (dk, dv) :: ds, _, _, _, h, hk, hp, hs1, hs2, z1, z2 => by
    cases h with
    | @cons k v r _ _ h1 h2 =>
      cases hk with
      | @cons _ kv _ _ hk1 hk2 =>
        obtain ⟨kk, kval⟩ := kv
        obtain ⟨q1, q2⟩ := hk1
        simp only at q1 q2
        subst q1
        cases hp with
        | @cons en _ es' _ p1 p2 p3 =>
          have hs1' : (PyData.str k).showable = true ∧ PyData.showableAll (ds.map (·.1)) = true := by simpa [PyData.showableAll] using hs1
          have hs2' : dv.showable = true ∧ PyData.showableAll (ds.map (·.2)) = true := by simpa [PyData.showableAll] using hs2
          have hz1 : (PyData.str k).shown.length ≤ sizeLine := z1 _ (by simp only [List.map_cons, PyData.shownAll]; exact List.mem_cons_self ..)
          have hz2 : dv.shown.length ≤ sizeLine := z2 _ (by simp only [List.map_cons, PyData.shownAll]; exact List.mem_cons_self ..)
          obtain ⟨c1, c2⟩ := DdKv.sh I ds _ _ _ h2 hk2 p3 hs1'.2 hs2'.2 (fun t ht => z1 t (by simp only [List.map_cons, PyData.shownAll]; exact List.mem_cons_of_mem _ ht)) (fun t ht => z2 t (by simp only [List.map_cons, PyData.shownAll]; exact List.mem_cons_of_mem _ ht))
          simp only at p2
          refine ⟨?_, ?_⟩
          · rcases keyIs_shape (show keyIs (Sum.inr k) en.key = true from p1) with ⟨j, t3, z, _⟩ | ⟨y, t3, z, ez⟩
            · cases z
            · cases z
              simp only [List.map_cons]
              refine shAll_cons ?_ c1
              rw [ez]
              exact ⟨_, [], .str k t3, (fun _ h => nomatch h), by simp only [PyData.shown]; exact .of_is (ReprIs.str k t3 (by simpa only [PyData.shown] using hz1)) _ _ _⟩
          · simp only [List.map_cons]
            rw [p2]
            exact shAll_cons (Dd.sh I dv v _ h1 q2 hs2'.1 hz2) c2
end
/-- such a thing is shown by its own type -/
theorem Dd.shows (I : Inv X pins σ H s) {a : Addr} {d : PyData} (h : Dd X.K H (.ref a) d) (hs : d.showable = true) (hz : d.shown.length ≤ sizeLine) : ∃ T idr, ShowsBy X.prog X.w s.heap a d T idr := by
  cases h with
  | @lst _ xs ds e hall =>
    have hz' : (listText (PyData.shownAll ds)).length ≤ sizeLine := by simpa only [PyData.shown] using hz
    obtain ⟨its, rv, ⟨o, n, h1, h2, _, h3⟩, _⟩ := I.list e
    obtain ⟨as, bs, rd, hb, hk⟩ := DdAll.sh I ds xs its hall rv (by simpa [PyData.showable] using hs) (fun t ht => Nat.le_trans (listText_mem_le ht) hz')
    have rr : Reads s.heap (.ref a) (.list ds) _ := .list h1 h2 h3 rd
    have hna : a ∉ bs := not_mem_of_deeper rr (by simp only [PyData.depth]; omega) hb
    refine ⟨"list", "list.__repr__", F.slot_list_repr.toG, F.slot_list_str, F.slot_list_format, fun s' hk0 => ⟨o, hk0 _ _ h1, h2⟩, fun A E s' Q hg hu hk0 hQ => ?_⟩
    simp only [PyData.depth] at hu
    simp only [PyData.shown] at hQ
    cases its with
    | nil =>
      cases rd
      simp only [PyData.shownAll, listText_nil] at hQ
      exact call_list_repr_empty ⟨o, hk0 _ _ h1, h2⟩ (hk0 _ _ h1) h3 (hQ s'.heap _ _ fun _ _ e => e)
    | cons x l => exact call_list_reprK h1 h2 h3 hna (by simpa using hk.length_eq) (fun i y e => hk.item i y (by simpa using e)) hg (fun b _ => Clear.nil b) hu hk0 hQ hz'
  | @tup _ xs ds e hall =>
    have hz' : (tupleText (PyData.shownAll ds)).length ≤ sizeLine := by simpa only [PyData.shown] using hz
    obtain ⟨its, rv, ⟨o, h1, h2, n, h3⟩, _⟩ := I.tuple e
    obtain ⟨as, bs, rd, hb, hk⟩ := DdAll.sh I ds xs its hall rv (by simpa [PyData.showable] using hs) (fun t ht => Nat.le_trans (tupleText_mem_le ht) hz')
    have rr : Reads s.heap (.ref a) (.tuple ds) _ := .tuple h1 h2 h3 rd
    have hna : a ∉ bs := not_mem_of_deeper rr (by simp only [PyData.depth]; omega) hb
    refine ⟨"tuple", "tuple.__repr__", F.slot_tuple_repr, F.slot_tuple_str, F.slot_tuple_format, fun s' hk0 => ⟨o, hk0 _ _ h1, h2⟩, fun A E s' Q hg hu hk0 hQ => ?_⟩
    simp only [PyData.depth] at hu
    simp only [PyData.shown] at hQ
    exact call_tuple_reprK h1 h2 h3 hna hk hg (fun b _ => Clear.nil b) hu hk0 hQ hz'
  | @dct _ kvs ds e hall =>
    have hz' : (dictText (PyData.shownKv ds)).length ≤ sizeLine := by simpa only [PyData.shown] using hz
    obtain ⟨_, hsys, vs, hk, hD⟩ : kvs.length ≤ sizeLine ∧ (a == sysModules) = false ∧ ∃ vs, KV kvs vs ∧ s.heap.DictOf (mixKind X.prog X.w) a vs := I.hok a _ e
    obtain ⟨o, es, ep, h1, h2, h3, _, e5, _⟩ := hD
    obtain ⟨hs1, hs2⟩ := PyData.showableKv_split ds (by simpa [PyData.showable] using hs)
    obtain ⟨⟨as1, b1, r1, hb1, k1⟩, as2, b2, r2, hb2, k2⟩ := DdKv.sh I ds kvs vs es.toList hall hk e5 hs1 hs2
      (fun t ht => let ⟨p, hp, hl⟩ := PyData.shownKv_key_le ds t ht; Nat.le_trans hl (Nat.le_trans (dictText_mem_le hp) hz')) (fun t ht => let ⟨p, hp, hl⟩ := PyData.shownKv_val_le ds t ht; Nat.le_trans hl (Nat.le_trans (dictText_mem_le hp) hz'))
    have rr : Reads s.heap (.ref a) (.dict ds) _ := .dict h1 h2.1 h3 r1 r2
    have hb : ReadAtMost s.heap (PyData.depthKv ds) (b1 ++ b2) := (hb1.mono (PyData.depthAll_keys_le ds)).append (hb2.mono (PyData.depthAll_vals_le ds))
    have hna : a ∉ b1 ++ b2 := not_mem_of_deeper rr (by simp only [PyData.depth]; omega) hb
    refine ⟨"dict", "dict.__repr__", F.slot_dict_repr, F.slot_dict_str, F.slot_dict_format, fun s' hk0 => ⟨o, hk0 _ _ h1, h2.1⟩, fun A E s' Q hg hu hk0 hQ => ?_⟩
    simp only [PyData.depth] at hu
    simp only [PyData.shown, PyData.shownKv_eq] at hQ
    exact call_dict_reprK h1 h2.1 h3 hsys hna (ReprEntriesK.of_two es.toList _ _
      (k1.more_le (fun b hb => List.mem_append_left _ hb) (PyData.depthAll_keys_le ds)) (k2.more_le (fun b hb => List.mem_append_right _ hb) (PyData.depthAll_vals_le ds))) hg (fun b _ => Clear.nil b) hu hk0 hQ (by rw [← PyData.shownKv_eq]; exact hz')
/-- repr of data, dicts in it -/
def rReprG (K : PySem.W.Frag) : List V → Hp → VK → Prop := fun xs H Q => ∃ v d, xs = [v] ∧ Dd K H v d ∧ d.showable = true ∧ d.depth ≤ 60 ∧ d.shown.length ≤ sizeLine ∧ Q (.str d.shown) H
theorem call_reprG (hg : X.A.guards = some []) (hu : X.A.units + 64 < cLine) : CallR X (.builtin "repr") (rReprG X.K) := by
  intro pins s σ H xs us Q I r h
  obtain ⟨v, d, rfl, hd, hs, hdep, hz, q⟩ := h
  obtain ⟨u, rfl, rv⟩ := vals1 r
  cases v with
  | ref a =>
    cases rv
    obtain ⟨T, idr, S⟩ := hd.shows I hs hz
    refine call_repr_slot (by omega) (S.typeIs s fun _ _ e => e) S.slotRepr (S.call X.A.in1 X.xe s _ hg (by show X.A.units + 1 + d.depth < cLine; omega) (fun _ _ e => e) fun h' u tk hk => ⟨_, _, rfl, ?_⟩)
    exact ⟨.str d.shown, H, I.kept hk, ⟨_, rfl⟩, q⟩
  | non =>
    cases hd
    cases rv
    exact PySem.P.repr_of_none ⟨.str _, H, I.tok _, ⟨_, rfl⟩, q⟩
  | bl b =>
    cases hd
    cases rv
    refine PySem.P.repr_of_bool ⟨.str (PyData.shown (.bool b)), H, I.tok _, ⟨s.toks, ?_⟩, q⟩
    cases b <;> rfl
  | int i =>
    cases hd
    obtain ⟨t, rfl⟩ := rv
    exact PySem.P.repr_of_int (by simpa [PyData.showable] using hs) ⟨.str _, H, I.tok _, ⟨_, rfl⟩, q⟩
  | str x =>
    cases hd
    obtain ⟨t, rfl⟩ := rv
    exact PySem.P.repr_of_str ⟨.str _, H, I.tok _, ⟨_, rfl⟩, q⟩ hz
  | byt b => cases hd
  | flt b => cases hd
  | ty n => cases hd
end
/-! data stays -/
mutual
theorem Dd.same {K : PySem.W.Frag} {H H' : Hp} (s : Ext H H') : ∀ {d : PyData} {v : V}, Dd K H v d → Dd K H' v d
  | _, _, .non => .non
  | _, _, .bl b => .bl b
  | _, _, .int i => .int i
  | _, _, .str x => .str x
  | _, _, .lst e h => .lst (SqL.ext e s) (DdAll.same s h)
  | _, _, .tup e h => .tup (SqT.ext e s) (DdAll.same s h)
  | _, _, .dct e h => .dct (s _ _ e) (DdKv.same s h)
theorem DdAll.same {K : PySem.W.Frag} {H H' : Hp} (s : Ext H H') : ∀ {ds : List PyData} {vs : List V}, DdAll K H vs ds → DdAll K H' vs ds
  | _, _, .nil => .nil
  | _, _, .cons h t => .cons (Dd.same s h) (DdAll.same s t)
theorem DdKv.same {K : PySem.W.Frag} {H H' : Hp} (s : Ext H H') : ∀ {ds : List (PyData × PyData)} {vs : List (Key × V)}, DdKv K H vs ds → DdKv K H' vs ds
  | _, _, .nil => .nil
  | _, _, .cons h t => .cons (Dd.same s h) (DdKv.same s t)
end
end So

/-! a value as data over a part of memory that stays; text * int -/
namespace So
open PySem PySem.Spec PyProof.Rows L2
section
variable {X : Cx}
theorem op_mul_str : OpR X (binaryOp .Mult) (fun x y H Q => ∃ z n, x = .str z ∧ y = .int n ∧ MulOk z n ∧ Q (.str (Txt.mul z n)) H) := by
  intro pins s σ H x y v u Q I rx ry h
  obtain ⟨z, n, rfl, rfl, ok, q⟩ := h
  obtain ⟨t, rfl⟩ := rx
  obtain ⟨t', rfl⟩ := ry
  exact SB.mul ok fun t' k => ⟨.str (Txt.mul z n), H, I.tok _, ⟨_, rfl⟩, q⟩
end
/-- memory without p -/
def hole (p : Addr) (H : Hp) : Hp := fun b => if b = p then none else H b
theorem hole_ne {p b : Addr} {H : Hp} (h : b ≠ p) : hole p H b = H b := if_neg h
theorem hole_at {p : Addr} {H : Hp} : hole p H p = none := if_pos rfl
theorem hole_same {p : Addr} {H : Hp} : Same (hole p H) H := fun b o e => by
  by_cases z : b = p
  · subst z
    rw [hole_at] at e
    cases e
  · rwa [hole_ne z] at e
/-- v is the data d, by a part of memory that has no p -/
def Kp (K : PySem.W.Frag) (p : Addr) (H : Hp) (v : V) (d : PyData) : Prop := ∃ F, F p = none ∧ Same F H ∧ Dd K F v d
section
variable {K : PySem.W.Frag} {p : Addr} {H H' : Hp} {v : V} {d : PyData}
theorem Kp.same (h : Kp K p H v d) (s : Same H H') : Kp K p H' v d := h.elim fun F e => ⟨F, e.1, e.2.1.trans s, e.2.2⟩
theorem Kp.off (h : Kp K p H v d) (s : ∀ b o, b ≠ p → H b = some o → H' b = some o) : Kp K p H' v d := h.elim fun F e => ⟨F, e.1, fun b o z => s b o (fun y => by
  subst y
  rw [e.1] at z
  cases z) (e.2.1 b o z), e.2.2⟩
theorem Kp.dd (h : Kp K p H v d) : Dd K H v d := h.elim fun F e => Dd.same (fun b o z => e.2.1 b o z) e.2.2
theorem Kp.hole (h : Dd K (So.hole p H) v d) : Kp K p H v d := ⟨So.hole p H, hole_at, hole_same, h⟩
theorem Kp.at (h : Dd K H v d) (e : H p = none) (s : Same H H') : Kp K p H' v d := ⟨H, e, s, h⟩
theorem Kp.non : Kp K p H .non .none := .hole .non
theorem Kp.bl (b : Bool) : Kp K p H (.bl b) (.bool b) := .hole (.bl b)
theorem Kp.int (i : Int) : Kp K p H (.int i) (.int i) := .hole (.int i)
theorem Kp.str (z : Str) : Kp K p H (.str z) (.str z) := .hole (.str z)
end
end So

/-! how long what repr tells of data is, how deep it goes -/
namespace So
open PySem PySem.Spec PyProof.Rows L2
theorem shownAll_map' : ∀ ds : List PyData, PyData.shownAll ds = ds.map PyData.shown
  | [] => rfl
  | d :: r => by
    unfold PyData.shownAll
    rw [shownAll_map' r]
    rfl
theorem sum_le' {k : Nat} : ∀ ds : List PyData, (∀ d ∈ ds, d.shown.length ≤ k) → (((PyData.shownAll ds).map (·.length)).sum) ≤ k * ds.length
  | [], _ => by simp [PyData.shownAll]
  | d :: r, h => by
    have ih := sum_le' r fun x hx => h x (List.mem_cons_of_mem _ hx)
    have h1 := h d List.mem_cons_self
    unfold PyData.shownAll
    rw [List.map_cons, List.sum_cons, List.length_cons, Nat.mul_succ]
    omega
theorem len_all' (ds : List PyData) : (PyData.shownAll ds).length = ds.length := by rw [shownAll_map', List.length_map]
/-- data that shows in n letters, m deep -/
structure OkD (n m : Nat) (d : PyData) : Prop where
  show' : d.showable = true
  deep : d.depth ≤ m
  len : d.shown.length ≤ n
theorem OkD.mono {n m n' m' : Nat} {d : PyData} (h : OkD n m d) (h1 : n ≤ n') (h2 : m ≤ m') : OkD n' m' d := ⟨h.show', Nat.le_trans h.deep h2, Nat.le_trans h.len h1⟩
theorem okAll {n m : Nat} : ∀ {ds : List PyData}, (∀ d ∈ ds, OkD n m d) → PyData.showableAll ds = true ∧ PyData.depthAll ds ≤ m + 1
  | [], _ => ⟨rfl, by simp [PyData.depthAll]⟩
  | d :: r, h => by
    have ih := okAll (ds := r) fun x hx => h x (List.mem_cons_of_mem _ hx)
    have h1 := h d List.mem_cons_self
    refine ⟨?_, ?_⟩
    · simp only [PyData.showableAll, h1.show', ih.1, Bool.and_self]
    · simp only [PyData.depthAll]
      have := h1.deep
      have := ih.2
      omega
theorem OkD.list {n m : Nat} {ds : List PyData} (h : ∀ d ∈ ds, OkD n m d) : OkD (n * ds.length + 2 * ds.length + 3) (m + 2) (.list ds) := by
  have a := okAll h
  refine ⟨by simp only [PyData.showable]; exact a.1, by simp only [PyData.depth]; omega, ?_⟩
  have h1 := listText_len_le (PyData.shownAll ds)
  have h2 := sum_le' (k := n) ds fun d hd => (h d hd).len
  rw [len_all'] at h1
  show (listText (PyData.shownAll ds)).length ≤ _
  omega
theorem OkD.tuple {n m : Nat} {ds : List PyData} (h : ∀ d ∈ ds, OkD n m d) : OkD (n * ds.length + 2 * ds.length + 3) (m + 2) (.tuple ds) := by
  have a := okAll h
  refine ⟨by simp only [PyData.showable]; exact a.1, by simp only [PyData.depth]; omega, ?_⟩
  have h1 := tupleText_len_le (PyData.shownAll ds)
  have h2 := sum_le' (k := n) ds fun d hd => (h d hd).len
  rw [len_all'] at h1
  show (tupleText (PyData.shownAll ds)).length ≤ _
  omega
theorem OkD.int {i : Int} (h : i.natAbs < 2 ^ 250) : OkD 2000 0 (.int i) := by
  have hl : i.natAbs.log2 < 1920 := Nat.lt_of_lt_of_le (PySem.Flt.log2_lt_of (by decide) h) (by decide)
  refine ⟨by simp [PyData.showable, hl], Nat.zero_le _, ?_⟩
  show (Str.ofString (toString i)).length ≤ 2000
  rw [PyProof.Rows.ofString_length]
  exact Nat.le_trans (int_text_length_le (k := 1920) (by decide) hl) (by decide)
theorem OkD.bool (b : Bool) : OkD 2000 0 (.bool b) := ⟨rfl, Nat.zero_le _, by cases b <;> decide⟩
theorem OkD.none : OkD 2000 0 .none := ⟨rfl, Nat.zero_le _, by decide⟩
theorem OkD.str {z : Str} (h : ∀ c ∈ z.cps.toList, c < 128) (hl : z.length ≤ 100) : OkD 2000 0 (.str z) := by
  refine ⟨rfl, Nat.zero_le _, ?_⟩
  have h1 := PySem.StrLaws.reprText_len z (fun c hc => Nat.lt_trans (h c hc) (by decide))
  show (reprText z).length ≤ 2000
  omega
/-- the same texts of the same data -/
theorem OkD.repr {n m : Nat} {d : PyData} (h : OkD n m d) (h1 : m ≤ 60) (h2 : n ≤ 16777216) : d.showable = true ∧ d.depth ≤ 60 ∧ d.shown.length ≤ sizeLine := ⟨h.show', Nat.le_trans h.deep h1, by rw [sizeLine_eq]; exact Nat.le_trans h.len h2⟩
end So

/-! memory without the tables of code objects -/
namespace So
open PySem PySem.Spec PyProof.Rows L2 LamX
def unt (H : Hp) : Hp := fun b => match H b with
  | some (.tbl _) => none
  | o => o
theorem unt_get {H : Hp} {b : Addr} {o : HO} (h : H b = some o) (n : ∀ ps, o ≠ .tbl ps) : unt H b = some o := by
  unfold unt
  rw [h]
  cases o with
  | tbl ps => exact absurd rfl (n ps)
  | _ => rfl
theorem unt_of {H : Hp} {b : Addr} {o : HO} (h : unt H b = some o) : H b = some o ∧ ∀ ps, o ≠ .tbl ps := by
  unfold unt at h
  cases e : H b with
  | none => rw [e] at h; cases h
  | some u =>
    rw [e] at h
    cases u with
    | tbl ps => cases h
    | _ => cases h; exact ⟨rfl, fun ps z => nomatch z⟩
theorem unt_none {H : Hp} {b : Addr} (h : H b = none) : unt H b = none := by
  unfold unt
  rw [h]
theorem unt_same (H : Hp) : Same (unt H) H := fun b o e => (unt_of e).1
theorem unt_ext {H H' : Hp} (e : ExtN H H') : Same (unt H) H' := fun b o h => e b o (unt_of h).1 (unt_of h).2
theorem unt_mono {F H : Hp} (s : Same F H) : Same (unt F) (unt H) := fun b o h => unt_get (s _ _ (unt_of h).1) (unt_of h).2
theorem rd_unt {H : Hp} {a : Addr} {u : HO} (h : Rd H a u) (n : ∀ ps, u ≠ .tbl ps) : Rd (unt H) a u := by
  rcases h with h | ⟨o, h⟩
  · exact .inl (unt_get h n)
  · exact .inr ⟨o, unt_get h fun ps z => nomatch z⟩
theorem sql_unt {K : PySem.W.Frag} {H : Hp} {a : Addr} {xs : List V} (h : SqL K H a xs) : SqL K (unt H) a xs := by
  rcases h with h | h
  · exact .inl (rd_unt h fun ps z => nomatch z)
  · exact .inr h
theorem sqt_unt {K : PySem.W.Frag} {H : Hp} {a : Addr} {xs : List V} (h : SqT K H a xs) : SqT K (unt H) a xs := by
  rcases h with h | h
  · exact .inl (rd_unt h fun ps z => nomatch z)
  · exact .inr h
mutual
theorem dd_unt {K : PySem.W.Frag} {H : Hp} : ∀ {d : PyData} {v : V}, Dd K H v d → Dd K (unt H) v d
  | _, _, .non => .non
  | _, _, .bl b => .bl b
  | _, _, .int i => .int i
  | _, _, .str x => .str x
  | _, _, .lst e h => .lst (sql_unt e) (ddAll_unt h)
  | _, _, .tup e h => .tup (sqt_unt e) (ddAll_unt h)
  | _, _, .dct e h => .dct (unt_get e fun ps z => nomatch z) (ddKv_unt h)
theorem ddAll_unt {K : PySem.W.Frag} {H : Hp} : ∀ {ds : List PyData} {vs : List V}, DdAll K H vs ds → DdAll K (unt H) vs ds
  | _, _, .nil => .nil
  | _, _, .cons h t => .cons (dd_unt h) (ddAll_unt t)
theorem ddKv_unt {K : PySem.W.Frag} {H : Hp} : ∀ {ds : List (PyData × PyData)} {vs : List (Key × V)}, DdKv K H vs ds → DdKv K (unt H) vs ds
  | _, _, .nil => .nil
  | _, _, .cons h t => .cons (dd_unt h) (ddKv_unt t)
end
theorem Kp.extN {K : PySem.W.Frag} {p : Addr} {H H' : Hp} {v : V} {d : PyData} (h : Kp K p H v d) (e : ExtN H H') : Kp K p H' v d := by
  obtain ⟨F, h1, h2, h3⟩ := h
  exact ⟨unt F, unt_none h1, (unt_mono h2).trans (unt_ext e), dd_unt h3⟩
end So

/-! texts of signs that are code points: how long what repr tells of them is -/
namespace So
open PySem PySem.Spec PyProof.Rows L2
def Wd (z : Str) : Prop := ∀ c ∈ z.cps.toList, c < 0x110000
theorem wd_of (s : String) : Wd (Str.ofString s) := by
  intro c hc
  rw [Str.ofString_eq_toList] at hc
  obtain ⟨x, _, rfl⟩ := List.mem_map.mp (show c ∈ s.toList.map Char.toNat by simpa using hc)
  have h : x.toNat < 1114112 := by
    have := x.valid
    unfold UInt32.isValidChar Nat.isValidChar at this
    show x.val.toNat < _
    omega
  exact h
theorem wd_app {a b : Str} (ha : Wd a) (hb : Wd b) : Wd (a ++ b) := by
  intro c hc
  have e : (a ++ b).cps.toList = a.cps.toList ++ b.cps.toList := by
    show (a.cps ++ b.cps).toList = _
    simp
  rw [e] at hc
  exact (List.mem_append.mp hc).elim (ha c) (hb c)
theorem wd_strOk {z : Str} (h : Wd z) : PyData.strOk z = true := by
  unfold PyData.strOk
  rw [Array.all_eq_true']
  intro c hc
  exact decide_eq_true (h c (by simpa using hc))
theorem wd_empty : Wd Str.empty := fun c hc => by cases hc
theorem wd_sjoin {a : Str} (ha : Wd a) : ∀ {ys : List Str}, (∀ y ∈ ys, Wd y) → Wd (Str.join a ys)
  | [], _ => wd_empty
  | [x], h => h x List.mem_cons_self
  | x :: y :: r, h => wd_app (wd_app (h x List.mem_cons_self) ha) (wd_sjoin ha fun z hz => h z (List.mem_cons_of_mem _ hz))
theorem wd_join {a : Str} (ha : Wd a) {ys : List Str} (h : ∀ y ∈ ys, Wd y) : Wd (Txt.join a ys) := by
  rw [TL.join_eq]
  exact wd_sjoin ha h
theorem sjoin_len (a : Str) : ∀ ys : List Str, (Str.join a ys).length ≤ (ys.map (·.length)).sum + ys.length * a.length
  | [] => Nat.zero_le _
  | [x] => by simp [Str.join]
  | x :: y :: r => by
    have ih := sjoin_len a (y :: r)
    have e1 : (Str.join a (x :: y :: r)).length = x.length + a.length + (Str.join a (y :: r)).length := by
      show (x ++ a ++ Str.join a (y :: r)).length = _
      rw [PyProof.Rows.len_cat, PyProof.Rows.len_cat]
    rw [e1, List.map_cons, List.sum_cons, List.length_cons, Nat.succ_mul]
    omega
theorem join_len (a : Str) (ys : List Str) : (Txt.join a ys).length ≤ (ys.map (·.length)).sum + ys.length * a.length := by
  rw [TL.join_eq]
  exact sjoin_len a ys
theorem OkD.strW {z : Str} {n : Nat} (h : Wd z) (hl : z.length ≤ n) : OkD (10 * n + 2) 0 (.str z) := by
  refine ⟨rfl, Nat.zero_le _, ?_⟩
  have h1 := PySem.StrLaws.reprText_len z fun c hc => Nat.lt_trans (h c hc) (by decide)
  show (reprText z).length ≤ _
  omega
end So

namespace K14
open PySem PySem.Spec PyProof.Rows L2 So LamX
abbrev sTick : Stmt := topS 49
abbrev sKinds : Stmt := topS 53
abbrev sDrawn : Stmt := topS 54
abbrev drawnN : List Str := ["_law_pen_here", "_law_crew_here", "_law_kinds_here", "_law_kind", "_law_left", "_law_right", "_law_tick_here", "_law_far"]
theorem scTick : FnScope ["_law_pen_here", "_law_some"] ["_law_pen_here"] (defScope sTick) := ⟨rfl, rfl, rfl, by decide +kernel, rfl, by decide +kernel, by decide +kernel⟩
theorem scKinds : FnScope ["_law_some"] [] (defScope sKinds) := ⟨rfl, rfl, rfl, by decide +kernel, rfl, by decide +kernel, by decide +kernel⟩
theorem scDrawn : FnScope drawnN ["_law_pen_here", "_law_crew_here", "_law_kinds_here"] (defScope sDrawn) := ⟨rfl, rfl, rfl, by decide +kernel, rfl, by decide +kernel, by decide +kernel⟩
theorem Pen.same {H H' : Hp} {p l : Addr} {ns : List Int} {n : Nat} {g : Int} (h : Pen H p l ns n g) (s : Same H H') : Pen H' p l ns n g := ⟨s _ _ h.pen, s _ _ h.cells, h.left⟩
theorem Pen.ne {H : Hp} {p l q : Addr} {ns : List Int} {n : Nat} {g : Int} (h : Pen H p l ns n g) (hq : H q = none) : q ≠ p := (ne_of_none h.pen hq).symm
theorem offS {p : Addr} {H H' : Hp} (s : Same H H') : Off p H H' := fun b o _ e => s b o e
/-! ### a drawn row -/
/-- a value that lies in no memory: a name, a moment, a truth -/
inductive Flat1 : V → Prop where
  | nam {z : Str} (h : isName z = true) : Flat1 (.str z)
  | mom {i : Int} (h : 0 ≤ i ∧ i ≤ 1000000000000000000000000000000) : Flat1 (.int i)
  | tru (b : Bool) : Flat1 (.bl b)
def FlatRow (kind : Str) (xs : List V) : Prop := xs.length = (formsOf kind).length ∧ ∀ q ∈ xs.zip (formsOf kind), okF q.2 q.1 = true ∧ Flat1 q.1
section
variable {P : Program} {w : World} {K : PySem.W.Frag} {mg : Str → Option Value} {base : Heap}
def spTick : Sp := fun vs H Q _ => ∃ (p l : Addr) (ns : List Int) (n : Nat) (g : Int), vs = [.ref p] ∧ Pen H p l ns n g ∧ n < 999000 ∧
  ∀ (i : Int) (n' : Nat) (g' : Int) (H' : Hp), 0 ≤ i → i ≤ 1000000000000000000000000000000 → n' ≤ n + 3 → Off p H H' → Pen H' p l ns n' g' → Q (.int i) H'
theorem ok_tick {f fP fD : Addr} {fd fdP fdD : FuncData} (F : Fun K "_law_tick" "_law_tick" sTick f fd) (FP : Fun K "_law_pick" "_law_pick" sPick fP fdP) (bP : Binds K fdP ["_law_pen_here", "_law_some"] []) (gP : mg "_law_pick" = some (.ref fP)) (GP : FnOk P w K mg base CX0 2 fP fdP ["_law_pen_here", "_law_some"] (spPick K))
    (FD : Fun K "_law_draw" "_law_draw" sDraw fD fdD) (bD : Binds K fdD ["_law_pen_here", "_law_many"] []) (gD : mg "_law_draw" = some (.ref fD)) (GD : FnOk P w K mg base CX0 1 fD fdD ["_law_pen_here", "_law_many"] spDraw) : FnOk P w K mg base CX0 3 f fd ["_law_pen_here"] spTick := by
  refine F.ok scTick (fun vs H Q E h => ?_) (fun cdv A outer s H vs Q E hr h => ?_)
  · obtain ⟨p, l, ns, n, g, rfl, _⟩ := h
    rfl
  · obtain ⟨p, l, ns, n, g, rfl, hp, hn, k⟩ := h
    have hr1 : Room 1 _ := hr.mono (by decide)
    refine ⟨_, pss_cons (ps_set (i := 1) scTick.nd rfl (.inl rfl) (pe_lst (pa_cons pe_int (pa_cons pe_int (pa_cons pe_int (pa_cons pe_int (pa_cons pe_int (pa_cons pe_int (pa_cons pe_int (pa_cons pe_int (pa_cons (pe_op op_pow pe_int pe_int) (pa_cons (pe_op op_sub (pe_op op_pow pe_int pe_int) pe_int) pa_nil))))))))))))
      (pss_one (ps_ret (pe_call GP hr (by rfl) gP FP.kp bP .nil pass0 (pa_cons (pv 0) (pa_cons (pe_op op_cat (pv 1) (pe_lst (pa_cons (pe_call GD hr1 (by rfl) gD FD.kp bD .nil pass0 (pa_cons (pv 0) (pa_cons pe_int pa_nil))) (pa_cons (pe_call GD hr1 (by rfl) gD FD.kp bD .nil pass0 (pa_cons (pv 0) (pa_cons (pe_op op_pow pe_int pe_int) pa_nil))) pa_nil)))) pa_nil))))), ?_⟩
    refine ⟨_, _, rfl, rfl, ⟨by decide, by decide, by decide⟩, _, _, rfl, rfl, ⟨by decide, by decide, by decide⟩, _, _, rfl, rfl, by show 10 ≤ sizeLine; decide, fun s1 h1 => ?_⟩
    have hp1 := hp.new (o := .lst [V.int 0, .int 1, .int 2, .int 3, .int 4, .int 5, .int 6, .int 8, .int ((10 : Int) ^ Int.toNat 30), .int ((10 : Int) ^ Int.toNat 30 - 1)]) h1
    have nsp := hp.ne h1
    refine ⟨_, rfl, _, rfl, _, rfl, p, l, ns, n, g, _, rfl, hp1, by omega, by decide, by decide, fun d1 n2 g2 H2 d10 d11 hn2 off2 pen2 => ?_⟩
    refine ⟨_, rfl, _, _, rfl, rfl, ⟨by decide, by decide, by decide⟩, p, l, ns, n2, g2, _, rfl, pen2, by omega, by decide +kernel, by decide +kernel, fun d2 n3 g3 H3 d20 d21 hn3 off3 pen3 => ?_⟩
    replace d21 : d2 < 1000000000000000000000000000000 := d21
    have hS3 := off3 _ _ nsp (off2 _ _ nsp (show (upd H s1 (.lst [V.int 0, .int 1, .int 2, .int 3, .int 4, .int 5, .int 6, .int 8, .int ((10 : Int) ^ Int.toNat 30), .int ((10 : Int) ^ Int.toNat 30 - 1)])) s1 = _ from upd_same))
    refine ⟨by show 2 ≤ sizeLine; decide, fun s2 h2 => ⟨s1, s2, _, _, rfl, rfl, same_upd0 h2 _ _ hS3, upd_same, by show 12 ≤ sizeLine; decide, fun s3 h3 => ?_⟩⟩
    have s23 := (same_upd0 (o := .lst [.int d1, .int d2]) h2).trans (same_upd0 (o := .lst ([V.int 0, .int 1, .int 2, .int 3, .int 4, .int 5, .int 6, .int 8, .int ((10 : Int) ^ Int.toNat 30), .int ((10 : Int) ^ Int.toNat 30 - 1)] ++ [.int d1, .int d2])) h3)
    have offA : Off p H H3 := (offS (same_upd0 h1)).trans (off2.trans off3)
    refine ⟨p, l, ns, n3, g3, _, rfl, pen3.same s23, by omega, .inl ⟨s3, _, rfl, (pen3.same (same_upd0 h2)).ne h3, upd_same, by show 0 < 12; decide, by show 12 ≤ 1000; decide, fun v n4 g4 H4 hv hn4 off4 pen4 => ?_⟩⟩
    have offB := (offA.trans (offS s23)).trans off4
    have hv' : v ∈ [V.int 0, .int 1, .int 2, .int 3, .int 4, .int 5, .int 6, .int 8, .int ((10 : Int) ^ Int.toNat 30), .int ((10 : Int) ^ Int.toNat 30 - 1), .int d1, .int d2] := hv
    simp only [List.mem_cons, List.not_mem_nil, or_false] at hv'
    rcases hv' with h | h | h | h | h | h | h | h | h | h | h | h <;> subst h
    · exact k _ n4 g4 H4 (by decide) (by decide) (by omega) offB pen4
    · exact k _ n4 g4 H4 (by decide) (by decide) (by omega) offB pen4
    · exact k _ n4 g4 H4 (by decide) (by decide) (by omega) offB pen4
    · exact k _ n4 g4 H4 (by decide) (by decide) (by omega) offB pen4
    · exact k _ n4 g4 H4 (by decide) (by decide) (by omega) offB pen4
    · exact k _ n4 g4 H4 (by decide) (by decide) (by omega) offB pen4
    · exact k _ n4 g4 H4 (by decide) (by decide) (by omega) offB pen4
    · exact k _ n4 g4 H4 (by decide) (by decide) (by omega) offB pen4
    · exact k _ n4 g4 H4 (by decide +kernel) (by decide +kernel) (by omega) offB pen4
    · exact k _ n4 g4 H4 (by decide +kernel) (by decide +kernel) (by omega) offB pen4
    · exact k _ n4 g4 H4 d10 (by omega) (by omega) offB pen4
    · exact k _ n4 g4 H4 d20 (by omega) (by omega) offB pen4
theorem okF_n (v : V) : okF "name" v = gNam v := by unfold okF; rw [if_pos rfl]
theorem okF_m (v : V) : okF "moment" v = gMom v := by unfold okF; rw [if_neg (by decide +kernel), if_pos rfl]
theorem okF_b (v : V) : okF "beginning" v = gBeg v := by unfold okF; rw [if_neg (by decide +kernel), if_neg (by decide +kernel), if_pos rfl]
theorem okF_t (v : V) : okF "truth" v = gTru v := by unfold okF; rw [if_neg (by decide +kernel), if_neg (by decide +kernel), if_neg (by decide +kernel)]
theorem row_of {kind : Str} {fo : List Str} {xs : List V} (e : formsOf kind = fo) (hl : xs.length = fo.length) (h : ∀ q ∈ xs.zip fo, okF q.2 q.1 = true ∧ Flat1 q.1) : FlatRow kind xs := by
  unfold FlatRow
  rw [e]
  exact ⟨hl, h⟩
theorem nam_ok {z : Str} (h : isName z = true) : okF "name" (.str z) = true ∧ Flat1 (.str z) := ⟨by rw [okF_n]; exact h, .nam h⟩
theorem mom_ok {i : Int} (h : 0 ≤ i ∧ i ≤ 1000000000000000000000000000000) : okF "moment" (.int i) = true ∧ Flat1 (.int i) := ⟨by rw [okF_m]; exact decide_eq_true h, .mom h⟩
theorem beg_ok {i : Int} (h : 1 ≤ i ∧ i ≤ 1000000000000000000000000000000) : okF "beginning" (.int i) = true ∧ Flat1 (.int i) := ⟨by rw [okF_b]; exact decide_eq_true h, .mom ⟨by omega, h.2⟩⟩
theorem tru_ok (b : Bool) : okF "truth" (.bl b) = true ∧ Flat1 (.bl b) := ⟨by rw [okF_t]; rfl, .tru b⟩
theorem kinds_last : ∀ kind ∈ kinds, ¬ kind = "begun" → ¬ kind = "trusted" → ¬ kind = "found" → (["setby", "passed", "failed"] : List Str).contains kind = false → formsOf kind = (["name", "moment", "name", "moment"] : List Str) := by decide +kernel
theorem kinds_three : ∀ kind ∈ kinds, (["setby", "passed", "failed"] : List Str).contains kind = true → (kind = "setby" ∧ formsOf kind = (["name", "beginning", "name"] : List Str)) ∨ formsOf kind = (["name", "moment", "name"] : List Str) := by decide +kernel
/-- a row walked by itself: what follows it is said once -/
theorem ps_cut {X : Cx} {st : Stmt} {t : TS} (h : PS X st t) : PS X st (fun D σ H => ∃ N : L2.St → Hp → Prop, t { D with nx := N } σ H ∧ ∀ σ' H', N σ' H' → D.nx σ' H') :=
  ⟨fun pins s σ H D I ⟨N, h1, h2⟩ => wpAny_mono (h.run pins s σ H { D with nx := N } I h1) (fun fl s' z => by
    cases fl with
    | next =>
      obtain ⟨σ', H', I', q⟩ := z
      exact ⟨σ', H', I', h2 _ _ q⟩
    | ret v => exact z
    | brk => exact z
    | cont => exact z) fun _ _ z => z⟩
/-- the kinds, in a new list -/
def spKinds : Sp := fun vs H Q _ => vs = [] ∧ ∀ (H' : Hp) (a : Addr), Same H H' → H a = none → H' a = some (.lst (kinds.map V.str)) → Q (.ref a) H'
theorem ok_kinds {f : Addr} {fd : FuncData} (F : Fun K "_law_kinds" "_law_kinds" sKinds f fd) : FnOk P w K mg base CX0 1 f fd [] spKinds := by
  refine F.ok scKinds (fun vs H Q E h => ?_) (fun cdv A outer s H vs Q E hr h => ?_)
  · obtain ⟨rfl, _⟩ := h
    rfl
  · obtain ⟨rfl, q⟩ := h
    refine ⟨_, pss_cons (ps_set (i := 0) scKinds.nd rfl (.inl rfl) (pe_lst (pa_cons pe_str (pa_cons pe_str (pa_cons pe_str (pa_cons pe_str (pa_cons pe_str (pa_cons pe_str pa_nil))))))))
      (pss_one (ps_ret (pe_op op_cat (pv 0) (pe_lst (pa_cons pe_str (pa_cons pe_str (pa_cons pe_str (pa_cons pe_str pa_nil)))))))), ?_⟩
    refine ⟨by show 6 ≤ sizeLine; decide, fun a ha => ?_⟩
    refine ⟨_, rfl, by show 4 ≤ sizeLine; decide, fun b hb => ?_⟩
    refine ⟨a, b, _, _, rfl, rfl, (upd_ne (ne_of_none upd_same hb)).trans upd_same, upd_same, by show 10 ≤ sizeLine; decide, fun c hc => ?_⟩
    exact q _ c (same3 ha hb hc).1 (same3 (o3 := .lst []) ha hb hc).2 upd_same
def spDrawn : Sp := fun vs H Q _ => ∃ (p l cr kk : Addr) (ns : List Int) (n : Nat) (g : Int) (kind : Str) (zs : List Str), vs = [.ref p, .ref cr, .ref kk] ∧ Pen H p l ns n g ∧ n < 900000 ∧ kind ∈ kinds ∧ H kk = some (.lst [.str kind]) ∧ kk ≠ p ∧ H cr = some (.lst (zs.map V.str)) ∧ cr ≠ p ∧ 0 < zs.length ∧ zs.length ≤ 1000 ∧ (∀ z ∈ zs, isName z = true) ∧
  ∀ (xs : List V) (tr : Addr) (n' : Nat) (g' : Int) (H' : Hp), FlatRow kind xs → n' ≤ n + 12 → Off p H H' → Pen H' p l ns n' g' → H' tr = some (.tup (.str kind :: xs)) → Q (.ref tr) H'
theorem ok_drawn {f fP fD fT : Addr} {fd fdP fdD fdT : FuncData} (F : Fun K "_law_drawn" "_law_drawn" sDrawn f fd) (mi : mg "int" = none) (FP : Fun K "_law_pick" "_law_pick" sPick fP fdP) (bP : Binds K fdP ["_law_pen_here", "_law_some"] []) (gP : mg "_law_pick" = some (.ref fP)) (GP : FnOk P w K mg base CX0 2 fP fdP ["_law_pen_here", "_law_some"] (spPick K))
    (FD : Fun K "_law_draw" "_law_draw" sDraw fD fdD) (bD : Binds K fdD ["_law_pen_here", "_law_many"] []) (gD : mg "_law_draw" = some (.ref fD)) (GD : FnOk P w K mg base CX0 1 fD fdD ["_law_pen_here", "_law_many"] spDraw)
    (FT : Fun K "_law_tick" "_law_tick" sTick fT fdT) (bT : Binds K fdT ["_law_pen_here"] []) (gT : mg "_law_tick" = some (.ref fT)) (GT : FnOk P w K mg base CX0 3 fT fdT ["_law_pen_here"] spTick) : FnOk P w K mg base CX0 4 f fd ["_law_pen_here", "_law_crew_here", "_law_kinds_here"] spDrawn := by
  refine F.ok scDrawn (fun vs H Q E h => ?_) (fun cdv A outer s H vs Q E hr h => ?_)
  · obtain ⟨_, _, _, _, _, _, _, _, _, rfl, _⟩ := h
    rfl
  · obtain ⟨p, l, cr, kk, ns, n, g, kind, zs, rfl, hp, hn, hk, hkk, nkp, hcr, ncp, i1, i2, i3, q⟩ := h
    have hr1 : Room 1 _ := hr.mono (by decide)
    have hr2 : Room 2 _ := hr.mono (by decide)
    refine ⟨_, pss_cons (ps_set (i := 3) scDrawn.nd rfl (.inl rfl) (pe_call GP hr2 (by rfl) gP FP.kp bP .nil pass0 (pa_cons (pv 0) (pa_cons (pv 2) pa_nil))))
      (pss_cons (ps_par (i := 4) (j := 5) (by rfl) scDrawn.nd rfl rfl (by decide) rfl rfl (pa_cons (pe_call GP hr2 (by rfl) gP FP.kp bP .nil pass0 (pa_cons (pv 0) (pa_cons (pv 1) pa_nil))) (pa_cons (pe_call GP hr2 (by rfl) gP FP.kp bP .nil pass0 (pa_cons (pv 0) (pa_cons (pv 1) pa_nil))) pa_nil)) (by rfl))
      (pss_cons (ps_par (i := 6) (j := 7) (by rfl) scDrawn.nd rfl rfl (by decide) rfl rfl (pa_cons (pe_call GT hr (by rfl) gT FT.kp bT .nil pass0 (pa_cons (pv 0) pa_nil)) (pa_cons (pe_call GT hr (by rfl) gT FT.kp bT .nil pass0 (pa_cons (pv 0) pa_nil)) pa_nil)) (by rfl))
      (pss_cons (ps_cut (ps_if (pt_cmpR op_in_seq (pv 3) (pe_tup (pa_cons pe_str (pa_cons pe_str pa_nil))) (by rfl)) (pss_one (ps_set (i := 6) scDrawn.nd rfl (.inl rfl) (pe_op op_add (pv 6) (pe_callTy call_int1 (by rfl) mi (by decide +kernel) (pa_cons (pe_cmpR op_eq (pv 6) pe_int (nomark _)) pa_nil))))) pss_nil))
      (pss_cons (ps_if (pt_cmpR op_eq (pv 3) pe_str (nomark _)) (pss_one (ps_ret (pe_tup (pa_cons (pv 3) (pa_cons (pv 4) (pa_cons (pv 6) pa_nil)))))) pss_nil)
      (pss_cons (ps_if (pt_cmpR op_eq (pv 3) pe_str (nomark _)) (pss_one (ps_ret (pe_tup (pa_cons (pv 3) (pa_cons (pv 4) pa_nil))))) pss_nil)
      (pss_cons (ps_if (pt_cmpR op_eq (pv 3) pe_str (nomark _)) (pss_one (ps_ret (pe_tup (pa_cons (pv 3) (pa_cons (pv 4) (pa_cons (pv 6) (pa_cons (pe_cmpR op_eq (pe_call GD hr1 (by rfl) gD FD.kp bD .nil pass0 (pa_cons (pv 0) (pa_cons pe_int pa_nil))) pe_int (nomark _)) pa_nil))))))) pss_nil)
      (pss_cons (ps_if (pt_cmpR op_in_seq (pv 3) (pe_tup (pa_cons pe_str (pa_cons pe_str (pa_cons pe_str pa_nil)))) (by rfl)) (pss_one (ps_ret (pe_tup (pa_cons (pv 3) (pa_cons (pv 4) (pa_cons (pv 6) (pa_cons (pv 5) pa_nil))))))) pss_nil)
      (pss_one (ps_ret (pe_tup (pa_cons (pv 3) (pa_cons (pv 4) (pa_cons (pv 6) (pa_cons (pv 5) (pa_cons (pv 7) pa_nil))))))))))))))), ?_⟩
    refine ⟨_, rfl, _, rfl, p, l, ns, n, g, _, rfl, hp, by omega, .inl ⟨kk, _, rfl, nkp, hkk, by show 0 < 1; decide, by show 1 ≤ 1000; decide, fun v n1 g1 H1 hv hn1 off1 pen1 => ?_⟩⟩
    obtain rfl : v = .str kind := by simpa using hv
    have hcr1 := off1 _ _ ncp hcr
    have nm : ∀ v ∈ zs.map V.str, ∃ z, v = .str z ∧ isName z = true := fun v hv => by
      obtain ⟨z, hz, rfl⟩ := List.mem_map.mp hv
      exact ⟨z, rfl, i3 z hz⟩
    have zl1 : 0 < (zs.map V.str).length := by rw [List.length_map]; exact i1
    have zl2 : (zs.map V.str).length ≤ 1000 := by rw [List.length_map]; exact i2
    refine ⟨_, rfl, _, rfl, p, l, ns, n1, g1, _, rfl, pen1, by omega, .inl ⟨cr, _, rfl, ncp, hcr1, zl1, zl2, fun v2 n2 g2 H2 hv2 hn2 off2 pen2 => ?_⟩⟩
    obtain ⟨zl, rfl, il⟩ := nm v2 hv2
    refine ⟨_, rfl, _, rfl, p, l, ns, n2, g2, _, rfl, pen2, by omega, .inl ⟨cr, _, rfl, ncp, off2 _ _ ncp hcr1, zl1, zl2, fun v3 n3 g3 H3 hv3 hn3 off3 pen3 => ?_⟩⟩
    obtain ⟨zr, rfl, ir⟩ := nm v3 hv3
    refine ⟨_, _, rfl, ?_⟩
    refine ⟨_, rfl, p, l, ns, n3, g3, rfl, pen3, by omega, fun t1 n4 g4 H4 t10 t11 hn4 off4 pen4 => ⟨_, rfl, p, l, ns, n4, g4, rfl, pen4, by omega, fun t2 n5 g5 H5 t20 t21 hn5 off5 pen5 => ⟨_, _, rfl, ?_⟩⟩⟩
    have offA := off1.trans (off2.trans (off3.trans (off4.trans off5)))
    refine ⟨fun σ G => ∃ t : Int, σ = [some (.ref p), some (.ref cr), some (.ref kk), some (.str kind), some (.str zl), some (.str zr), some (.int t), some (.int t2)] ∧ 0 ≤ t ∧ t ≤ 1000000000000000000000000000000 ∧ ((["begun", "setby"] : List Str).contains kind = true → 1 ≤ t) ∧ Same H5 G, ?_, ?_⟩
    · refine ⟨_, rfl, by show 2 ≤ sizeLine; decide, fun tp htp => ⟨tp, _, rfl, .inr (SqT.of upd_same), rfl, flat_strs ["begun", "setby"], ?_⟩⟩
      have s6 := same_upd0 (o := .tup [.str "begun", .str "setby"]) htp
      rw [show (if false = true then !inV (V.str kind) [V.str "begun", V.str "setby"] else inV (V.str kind) [V.str "begun", V.str "setby"]) = (["begun", "setby"] : List Str).contains kind from inV_strs kind ["begun", "setby"]]
      refine ⟨_, rfl, ite2 (fun c => ?_) (fun c => ?_)⟩
      · refine ⟨_, rfl, _, rfl, rfl, .inr ⟨_, rfl, ?_⟩⟩
        by_cases z : t1 = 0
        · subst z
          exact ⟨_, _, rfl, by rw [decide_eq_true rfl]; rfl, 0 + 1, rfl, by omega, by omega, fun _ => by omega, s6⟩
        · refine ⟨_, _, rfl, by rw [decide_eq_false (fun y => z (V.int.inj y))]; rfl, t1 + 0, rfl, by omega, by omega, fun _ => by omega, s6⟩
      · exact ⟨t1, rfl, t10, t11, fun y => absurd y c, s6⟩
    rintro σ H6 ⟨t, rfl, t0, t3, tb, s6⟩
    have offB := offA.trans (offS s6)
    have pen6 := pen5.same s6
    have fin : ∀ {xs : List V} {tr : Addr} {n7 : Nat} {g7 : Int} {G : Hp}, FlatRow kind xs → n7 ≤ n + 12 → Off p H6 G → Pen G p l ns n7 g7 → G tr = none → Q (.ref tr) (upd G tr (.tup (.str kind :: xs))) := fun hf h7 ho hp7 htr => q _ _ _ _ _ hf h7 (offB.trans (ho.trans (offS (same_upd0 htr)))) (hp7.same (same_upd0 htr)) upd_same
    refine ⟨_, rfl, rfl, _, rfl, ite2 (fun e => ?_) (fun e1 => ?_)⟩
    · obtain rfl : kind = "begun" := V.str.inj (of_decide_eq_true e)
      refine ⟨_, rfl, _, rfl, _, rfl, by show 3 ≤ sizeLine; decide, fun tr htr => fin (row_of (fo := ["name", "beginning"]) (by decide +kernel) rfl ?_) (by omega) Off.refl pen6 htr⟩
      simp only [List.zip_cons_cons, List.zip_nil_right, List.forall_mem_cons]
      exact ⟨nam_ok il, beg_ok ⟨tb (by decide +kernel), t3⟩, fun _ h => nomatch h⟩
    have k1 : ¬ kind = "begun" := fun z => e1 (decide_eq_true (by rw [z]))
    refine ⟨_, rfl, rfl, _, rfl, ite2 (fun e => ?_) (fun e2 => ?_)⟩
    · obtain rfl : kind = "trusted" := V.str.inj (of_decide_eq_true e)
      refine ⟨_, rfl, _, rfl, by show 2 ≤ sizeLine; decide, fun tr htr => fin (row_of (fo := ["name"]) (by decide +kernel) rfl ?_) (by omega) Off.refl pen6 htr⟩
      simp only [List.zip_cons_cons, List.zip_nil_right, List.forall_mem_cons]
      exact ⟨nam_ok il, fun _ h => nomatch h⟩
    have k2 : ¬ kind = "trusted" := fun z => e2 (decide_eq_true (by rw [z]))
    refine ⟨_, rfl, rfl, _, rfl, ite2 (fun e => ?_) (fun e3 => ?_)⟩
    · obtain rfl : kind = "found" := V.str.inj (of_decide_eq_true e)
      refine ⟨_, rfl, _, rfl, _, rfl, _, rfl, p, l, ns, n5, g5, _, rfl, pen6, by omega, by decide, by decide, fun d n7 g7 H7 _ _ hn7 off7 pen7 => ⟨rfl, by show 4 ≤ sizeLine; decide, fun tr htr => fin (row_of (fo := ["name", "moment", "truth"]) (by decide +kernel) rfl ?_) (by omega) off7 pen7 htr⟩⟩
      simp only [List.zip_cons_cons, List.zip_nil_right, List.forall_mem_cons]
      exact ⟨nam_ok il, mom_ok ⟨t0, t3⟩, tru_ok _, fun _ h => nomatch h⟩
    have k3 : ¬ kind = "found" := fun z => e3 (decide_eq_true (by rw [z]))
    refine ⟨_, rfl, by show 3 ≤ sizeLine; decide, fun tp htp => ⟨tp, _, rfl, .inr (SqT.of upd_same), rfl, flat_strs ["setby", "passed", "failed"], ?_⟩⟩
    have s7 := same_upd0 (o := .tup [.str "setby", .str "passed", .str "failed"]) htp
    rw [show (if false = true then !inV (V.str kind) [V.str "setby", V.str "passed", V.str "failed"] else inV (V.str kind) [V.str "setby", V.str "passed", V.str "failed"]) = (["setby", "passed", "failed"] : List Str).contains kind from inV_strs kind ["setby", "passed", "failed"]]
    refine ⟨_, rfl, ite2 (fun c => ?_) (fun c => ?_)⟩
    · refine ⟨_, rfl, _, rfl, _, rfl, _, rfl, by show 4 ≤ sizeLine; decide, fun tr htr => fin ?_ (by omega) (offS s7) (pen6.same s7) htr⟩
      rcases kinds_three kind hk c with ⟨e, h⟩ | h
      · refine row_of h rfl ?_
        simp only [List.zip_cons_cons, List.zip_nil_right, List.forall_mem_cons]
        exact ⟨nam_ok il, beg_ok ⟨tb (by rw [e]; decide +kernel), t3⟩, nam_ok ir, fun _ h => nomatch h⟩
      · refine row_of h rfl ?_
        simp only [List.zip_cons_cons, List.zip_nil_right, List.forall_mem_cons]
        exact ⟨nam_ok il, mom_ok ⟨t0, t3⟩, nam_ok ir, fun _ h => nomatch h⟩
    · refine ⟨_, rfl, _, rfl, _, rfl, _, rfl, _, rfl, by show 5 ≤ sizeLine; decide, fun tr htr => fin (row_of (kinds_last kind hk k1 k2 k3 (Bool.eq_false_iff.mpr c)) rfl ?_) (by omega) (offS s7) (pen6.same s7) htr⟩
      simp only [List.zip_cons_cons, List.zip_nil_right, List.forall_mem_cons]
      exact ⟨nam_ok il, mom_ok ⟨t0, t3⟩, nam_ok ir, mom_ok ⟨t20, t21⟩, fun _ h => nomatch h⟩
end
end K14

namespace So
open PySem PySem.Spec PyProof.Rows L2
section
variable {X : Cx} {CX : CXT} {k : Nat} {C f : Addr} {fd : FuncData} {ps : List Str} {sp : Sp} {E : XK}
/-- o << n by an own __lshift__ -/
theorem op_lshOwn {fo ro : Option Value} (F : FnOk X.prog X.w X.K X.mg X.base CX k f fd ps sp) (hs : PySem.W.findIn X.K (.ref C) "__lshift__" = some (some (.ref f))) (hf : PySem.W.isFn X.K (.ref f) = true) (hb : Binds X.K fd ps []) (hx : Passes CX X E) (hr : Room k X.A)
    (hc : PySem.W.selfFirst X.K C = true) (hrl : PySem.W.findIn X.K (.ref C) "__rlshift__" = some none) (h1 : PySem.W.findIn X.K (.type "int") "__lshift__" = some fo) (h2 : PySem.W.findIn X.K (.type "int") "__rlshift__" = some ro) :
    OpR X (binaryOp .LShift) (fun x y H Q => ∃ (a dx : Addr) (fs : List (Str × V)) (n : Int), x = .ref a ∧ y = .int n ∧ H a = some (.ins C dx fs) ∧ sp [.ref a, .int n] H Q E) := by
  intro pins s σ H x y v u Q I rx ry h
  obtain ⟨a, dx, fs, n, rfl, rfl, ha, q⟩ := h
  cases rx
  obtain ⟨t, rfl⟩ := ry
  obtain ⟨mA, J, _⟩ := ins_get I.hok ha
  obtain ⟨od, J, _⟩ := J.look
  obtain ⟨m, hF⟩ := I.fr
  refine PySem.W.ksp_binT (op := .LShift) hF I.ok.mod.kin J (T := "int") rfl hc hs hf hrl (Or.inl rfl) h1 h2 (sub_ty (by decide +kernel)) ?_
  refine wpAny_mono (run_fn (us := [.ref a, .int n t]) (vs := [.ref a, .int n]) F hr hb .nil hx I (.cons rfl (.cons ⟨t, rfl⟩ .nil)) q) (fun w s' z => ?_) fun _ _ z => z
  obtain ⟨v, H', I', r, q'⟩ := z
  cases w <;> first | exact ⟨v, H', I', r, q'⟩ | (cases v <;> simp [L2.RelV] at r)
/-- isinstance(e, (c, ..)), e a kept exception -/
theorem call_isXoT : CallR X (.builtin "isinstance") (fun xs H Q => ∃ (a D dd tp : Addr) (fs : List (Str × V)) (cs : List V) (us : List Value) (b : Bool), xs = [.ref a, .ref tp] ∧ H a = some (Xo (.ref D) (some dd) a) ∧ H dd = some (.xd fs) ∧ Err X.K D ∧ H tp = some (.tup cs) ∧ Paired ClsV cs us ∧ PySem.W.kitAny X.K (.ref D) us = some b ∧ Q (.bl b) H) := by
  intro pins s σ H xs us Q I r h
  obtain ⟨a, D, dd, tp, fs, cs, ws, b, rfl, ha, hd, T, hT, cv, e, q⟩ := h
  obtain ⟨u1, u2, rfl, r1, r2⟩ := vals2 r
  cases r1
  cases r2
  obtain ⟨oe, vs, hg, hz, hdat⟩ := xo_at I.hok ha
  obtain ⟨mA, hns, _⟩ := (show ObjOk X.prog X.w H s.heap dd (.xd fs) from I.hok dd _ hd)
  obtain ⟨od, ho, _⟩ := lookIn_ns hns
  have nc : PySem.W.notCls oe = true := by
    unfold PySem.W.notCls
    rw [hdat]
  have J : PySem.W.InstAt s.heap a oe D (some od) := by
    refine ⟨hg, hz.1, nc, ?_⟩
    rw [hz.2]
    exact ho
  obtain ⟨_, its, rv, o, g1, g2, n, g3⟩ := (show ObjOk X.prog X.w H s.heap tp (.tup cs) from I.hok tp _ hT)
  have e3 := ClsV.all cv rv
  subst e3
  obtain ⟨oc, od', dt, sl⟩ := o
  simp only at g2 g3
  subst g2 g3
  exact PySem.W.kia_tup (kitx_err T) I.kIn ⟨oe, some od, J⟩ g1 e (fun z => nomatch z) fun tk => ⟨.bl b, H, I.tok tk, rfl, q⟩
end
/-! ### sorted, of pairs of texts -/
def encSS (p : Str × Str) : PyData := .tuple [.str p.1, .str p.2]
section
variable {X : Cx}
theorem cr_sortedSS (hu : X.A.units + 64 < cLine) : CallR X (.builtin "sorted") (fun xs H Q => ∃ (a : Addr) (ts : List (Addr × Str × Str)), xs = [.ref a] ∧ SqL X.K H a (ts.map fun t => V.ref t.1) ∧ (∀ t ∈ ts, H t.1 = some (.tup [.str t.2.1, .str t.2.2])) ∧
    ∀ (p : Addr) (ys : List (Addr × Str × Str)), H p = none → (∀ t ∈ ys, H t.1 = some (.tup [.str t.2.1, .str t.2.2])) → (ys.map fun t => t.2) = (ts.map fun t => t.2).mergeSort (PySem.W.dataLe false encSS) → Q (.ref p) (upd H p (.lst (ys.map fun t => V.ref t.1)))) := by
  intro pins s σ H xs us Q I r h
  obtain ⟨a, ts, rfl, hs, ht, q⟩ := h
  obtain ⟨its, rv, hl, hz⟩ := I.list hs
  rw [Vals.ref1 r]
  have each : ∀ (ts : List (Addr × Str × Str)) (its : List Value), Vals (ts.map fun t => V.ref t.1) its → (∀ t ∈ ts, H t.1 = some (.tup [.str t.2.1, .str t.2.2])) →
      PySem.W.EachIs (fun v (b : Str × Str) => ∃ a : Addr, v = .ref a ∧ H a = some (.tup [.str b.1, .str b.2])) its (ts.map fun t => t.2) := by
    intro ts
    induction ts with
    | nil =>
      intro its rv _
      cases rv
      exact .nil
    | cons t r ih =>
      intro its rv h
      cases rv with
      | cons r1 r2 =>
        refine .cons ⟨t.1, r1, h t List.mem_cons_self⟩ (ih _ r2 fun x hx => h x (List.mem_cons_of_mem _ hx))
  have e1 := each ts its rv ht
  have er : PySem.W.EachIs (fun v (b : Str × Str) => ∃ as, Reads s.heap v (encSS b) as) its (ts.map fun t => t.2) := by
    refine e1.mono fun v b z => ?_
    obtain ⟨a', rfl, hA⟩ := z
    exact Dp.reads I (encSS b) (.ref a') (.ref a') (.tup (SqT.of hA) (.cons (.str _) (.cons (.str _) .nil))) rfl
  have hlen : (ts.map fun t => t.2).length ≤ sizeLine := by
    rw [List.length_map]
    rw [List.length_map] at hz
    exact hz
  refine PySem.W.sorted_data (enc := encSS) hl.isList e1 er (PySem.W.AllAlike.of fun b b' => by simp [encSS, PySem.W.alike, PySem.W.alikeAll]) (PySem.W.Sortable.tuples fun b => ⟨_, _, rfl⟩) hlen (fun b _ => ?_) fun out ho h2 => ?_
  · show X.A.units + 2 + (encSS b).depth < cLine
    have : (encSS b).depth = 1 := by simp [encSS, PyData.depth, PyData.depthAll]
    omega
  · -- the items of the new list
    have back : ∀ (out : List Value) (bs : List (Str × Str)), PySem.W.EachIs (fun v (b : Str × Str) => ∃ a : Addr, v = .ref a ∧ H a = some (.tup [.str b.1, .str b.2])) out bs →
        ∃ ys : List (Addr × Str × Str), Vals (ys.map fun t => V.ref t.1) out ∧ (∀ t ∈ ys, H t.1 = some (.tup [.str t.2.1, .str t.2.2])) ∧ (ys.map fun t => t.2) = bs := by
      intro out bs e
      induction e with
      | nil => exact ⟨[], .nil, (fun _ h => nomatch h), rfl⟩
      | cons h _ ih =>
        obtain ⟨a', rfl, hA⟩ := h
        obtain ⟨ys, r1, r2, r3⟩ := ih
        refine ⟨(a', _) :: ys, .cons rfl r1, fun t h => ?_, by rw [List.map_cons, r3]⟩
        rcases List.mem_cons.mp h with rfl | h
        · exact hA
        · exact r2 t h
    obtain ⟨ys, r1, r2, r3⟩ := back _ _ h2
    obtain ⟨ep, he⟩ := PyProof.Rows.sortedAll_at s.heap its out.toArray
    have hl2 : (ys.map fun t => V.ref t.1).length ≤ sizeLine := by
      rw [r1.length, ho]
      exact hlen
    exact ⟨.ref _, upd H (s.heap.objs.size + 1) (.lst (ys.map fun t => V.ref t.1)), I.laid (t' := s.toks) (fun _ _ => PyProof.Rows.sortedAll_old) (Nat.le_succ _) ⟨hl2, out, ep, r1, he⟩, rfl, q _ ys (I.hok.fresh (Nat.le_succ _)) r2 r3⟩
end
end So

namespace So
open PySem PySem.Spec PyProof.Rows L2
section
variable {X : Cx} {CX : CXT} {k : Nat} {C f : Addr} {fd : FuncData} {ps : List Str} {sp : Sp} {E : XK}
/-- str(o) of an instance whose class has an own __str__ -/
theorem call_strOwn (F : FnOk X.prog X.w X.K X.mg X.base CX k f fd ps sp) (hs : PySem.W.findIn X.K (.ref C) "__str__" = some (some (.ref f))) (hf : PySem.W.isFn X.K (.ref f) = true) (hb : Binds X.K fd ps []) (hx : Passes CX X E) (hr : Room (k + 2) X.A) :
    CallR X (.type "str") (fun xs H Q => ∃ a dx fs, xs = [.ref a] ∧ H a = some (.ins C dx fs) ∧ sp [.ref a] H (fun v H' => ∃ t : Str, v = .str t ∧ Q (.str t) H') E) := by
  intro pins s σ H xs us Q I r h
  obtain ⟨a, dx, fs, rfl, ha, q⟩ := h
  obtain ⟨u, rfl, ru⟩ := vals1 r
  cases ru
  obtain ⟨mA, J, _⟩ := ins_get I.hok ha
  obtain ⟨od, J, _⟩ := J.look
  have hr2 : Room k X.A.in1.in1 := hr.in1.in1
  refine PySem.W.kso_call hr2.units0 I.kIn J hs hf ?_
  have e0 : Env0 X.prog X.w X.K X.mg X.base X.A.in1.in1 X.stack s H := I.env0.in1.in1
  have hl : ([Value.ref a] ++ ([] : List Value)).length = ps.length := (F.len _ _ _ _ q : [V.ref a].length = ps.length)
  refine wpAny_call (codeAny_mono (F.run X.A.in1.in1 X.stack s H ⟨[.ref a], []⟩ ([Value.ref a] ++ []) [.ref a] _ E hr2 e0 (hb s [Value.ref a] I.kIn hl) (show Vals [V.ref a] [Value.ref a] from .cons rfl .nil) q) fun r s' hq => ?_)
  match r, hq with
  | .error e, hq => exact hx pins σ H s e s' I hq
  | .ok (.ret u), hq =>
    obtain ⟨v, H', I', rv, t, ev, q'⟩ := I.after hq
    subst ev
    obtain ⟨tk, rfl⟩ := rv
    exact ⟨.str t, H', I', ⟨tk, rfl⟩, q'⟩
  | .ok .next, hq => exact hq.elim
  | .ok .brk, hq => exact hq.elim
  | .ok .cont, hq => exact hq.elim
end
end So

namespace So
open PySem PySem.Spec PyProof.Rows L2 StX
/-! ### rules of which the class is known at run time alone -/
section
variable {X : Cx} {α : Type} {p : α → Prop}
theorem pe_ex {e : Expr} {t : α → TE} (h : ∀ c, p c → PE X e (t c)) : PE X e (fun σ H Q => ∃ c, p c ∧ t c σ H Q) := ⟨fun pins s σ H Q I ⟨c, hp, z⟩ => (h c hp).run pins s σ H Q I z⟩
theorem op_ex {f : Value → Value → Sem Value} {t : α → R2} (h : ∀ c, p c → OpR X f (t c)) : OpR X f (fun x y H Q => ∃ c, p c ∧ t c x y H Q) := fun pins s σ H x y v u Q I rx ry ⟨c, hp, z⟩ => h c hp pins s σ H x y v u Q I rx ry z
theorem cr_ex {f : Value} {t : α → List V → Hp → VK → Prop} (h : ∀ c, p c → CallR X f (t c)) : CallR X f (fun xs H Q => ∃ c, p c ∧ t c xs H Q) := fun pins s σ H xs us Q I r ⟨c, hp, z⟩ => h c hp pins s σ H xs us Q I r z
end
section
variable {X : Cx} {CX : CXT} {k : Nat} {C f : Addr} {fd : FuncData} {ps : List Str} {sp : Sp} {E : XK} {e : Expr} {te : TE}
theorem fnR_of {P : Program} {w : World} {K : PySem.W.Frag} {mg : Str → Option Value} {base : Heap} (F : FnOk P w K mg base CX k f fd ps sp) (hb : Binds K fd ps []) : FnR P w K mg base CX k f sp :=
  (F.raw hb .nil).imp fun vs H Q E h => by rw [List.append_nil]; exact h
/-- C(*e), C an own class -/
theorem pe_makeS1 {x : Str} {p sp_ pos : Pos} (M : Mk X.K C f) (F : FnR X.prog X.w X.K X.mg X.base CX k f sp) (hr : Room (k + 1) X.A) (hg : Gl X x) (hm : X.mg x = some (.ref C)) (hx : Passes CX X E) (he : PE X e te) (hd : (x == ("__debug__" : Str)) = false := by decide)
    (hst : starEach [.Starred e sp_] X.env = [(true, eval e X.env)] := by rfl) :
    PE X (.Call (.Name x p) [.Starred e sp_] [] pos) (fun σ H Q => te σ H fun y H1 => ∃ a xs, y = V.ref a ∧ (SqT X.K H1 a xs ∨ SqL X.K H1 a xs) ∧ ∀ x dx, H1 x = Option.none → H1 dx = Option.none → dx ≠ x →
      sp (V.ref x :: xs) (upd (upd H1 dx (.own x)) x (.ins C dx [])) (fun v H2 => v = .non ∧ Q (.ref x) H2) E) := by
  refine ⟨fun pins s σ H Q I h => ?_⟩
  refine wpAny_Call_Name_kw (ld_glob I hg hm ?_ hd)
  refine PySem.W.callWith_S (h₀ := X.base) I.ok.mod.kin M.kp (thn (he.run pins s σ H _ I h) fun v s1 ⟨y, H1, I1, ry, a, xs, ey, hxs, q⟩ => ?_) hst
  subst ey
  obtain rfl : v = Value.ref a := ry
  exact star_any I1 hxs fun us s2 I2 rv => ⟨I2.kIn, run_makeR M F hr hx I2 rv q⟩
theorem call_str_bl : CallR X (.type "str") (fun xs H Q => ∃ b, xs = [.bl b] ∧ Q (.str (if b then "True" else "False")) H) := by
  intro pins s σ H xs us Q I r h
  obtain ⟨b, rfl, q⟩ := h
  obtain ⟨u, rfl, r1⟩ := vals1 r
  cases r1
  exact PySem.P.str_of_bool ⟨.str _, H, I.tok _, ⟨_, rfl⟩, q⟩
end
end So

namespace K14
open PySem PySem.Spec PyProof.Rows L2 So LamX
abbrev sMade : Stmt := topS 58
theorem scMade : FnScope ["_law_row", "_law_kind"] ["_law_row"] (defScope sMade) := ⟨rfl, rfl, rfl, by decide +kernel, rfl, by decide +kernel, by decide +kernel⟩
section
variable {P : Program} {w : World} {K : PySem.W.Frag} {mg : Str → Option Value} {base : Heap}
/-- behind C(..), C a row's class -/
theorem made_row {CN CM CS C : Addr} {kind : Str} {xs : List V} {H : Hp} {Q : VK} {E : XK} (hl : xs.length = (formsOf kind).length) (hg : ∀ y ∈ xs, ∃ T, Gv H y T)
    (h : WaysL CN CM CS (xs.zip (formsOf kind)) H E (∀ (H' : Hp) (a dx : Addr) fs, Same H H' → H' a = some (.ins C dx fs) → Told kind xs H' fs → Q (.ref a) H')) :
    ∀ x dx, H x = none → H dx = none → dx ≠ x → spRow CN CM CS C kind (.ref x :: (xs ++ [])) (upd (upd H dx (.own x)) x (.ins C dx [])) (fun v H2 => v = .non ∧ Q (.ref x) H2) E := by
  intro x dx hx hd ne
  have s0 : Same H (upd (upd H dx (.own x)) x (.ins C dx [])) := fun c o e => by
    rw [upd_ne (ne_of_none e hx), upd_ne (ne_of_none e hd)]
    exact e
  refine ⟨x, dx, xs, by rw [List.append_nil], upd_same, hl, (fun y hy => (hg y hy).elim fun T h => ⟨T, h.same s0⟩), fun gd H' fs o e lk => ⟨rfl, h.1 gd H' x dx fs (fun c u z => o c u (ne_of_none z hx) (s0 c u z)) e lk⟩, fun C' fl v g d H' s e => h.2 C' fl v g d H' (s0.trans s) e⟩
/-- at a there stands the row of this kind with these arguments -/
def RowAt (Cf : Str → Addr) (H : Hp) (a : Addr) (kind : Str) (xs : List V) : Prop := ∃ (dx : Addr) (fs : List (Str × V)), H a = some (.ins (Cf kind) dx fs) ∧ Told kind xs H fs
theorem RowAt.same {Cf : Str → Addr} {H H' : Hp} {a : Addr} {kind : Str} {xs : List V} (h : RowAt Cf H a kind xs) (s : Same H H') : RowAt Cf H' a kind xs := by
  obtain ⟨dx, fs, e, t1, ⟨tp, t2, t3⟩, t4⟩ := h
  exact ⟨dx, fs, s _ _ e, t1, ⟨tp, t2, s _ _ t3⟩, t4⟩
/-- a class of rows, its maker -/
def RowM (K : PySem.W.Frag) (P : Program) (w : World) (mg : Str → Option Value) (base : Heap) (CN CM CS : Addr) (Cf : Str → Addr) (nm kind : Str) (ps : List Str) : Prop := ∃ (fI : Addr) (fdI : FuncData), mg nm = some (.ref (Cf kind)) ∧ Mk K (Cf kind) fI ∧ Binds K fdI ps [] ∧ FnOk P w K mg base (L2.CX P w) 6 fI fdI ps (spRow CN CM CS (Cf kind) kind)
structure Rows (K : PySem.W.Frag) (P : Program) (w : World) (mg : Str → Option Value) (base : Heap) (CN CM CS : Addr) (Cf : Str → Addr) : Prop where
  begun : RowM K P w mg base CN CM CS Cf "Begun" "begun" ["self", "tool", "moment"]
  setby : RowM K P w mg base CN CM CS Cf "SetBy" "setby" ["self", "tool", "moment", "by"]
  found : RowM K P w mg base CN CM CS Cf "Found" "found" ["self", "tool", "moment", "is_sound"]
  trusted : RowM K P w mg base CN CM CS Cf "Trusted" "trusted" ["self", "tool"]
  passed : RowM K P w mg base CN CM CS Cf "Passed" "passed" ["self", "tool", "moment", "by"]
  failed : RowM K P w mg base CN CM CS Cf "Failed" "failed" ["self", "tool", "moment", "by"]
  agreed : RowM K P w mg base CN CM CS Cf "Agreed" "agreed" ["self", "one", "moment", "other", "later"]
  differed : RowM K P w mg base CN CM CS Cf "Differed" "differed" ["self", "one", "moment", "other", "later"]
  served : RowM K P w mg base CN CM CS Cf "Served" "served" ["self", "one", "moment", "other", "later"]
  backed : RowM K P w mg base CN CM CS Cf "Backed" "backed" ["self", "one", "moment", "other", "later"]
def spMade (CN CM CS : Addr) (Cf : Str → Addr) : Sp := fun vs H Q E => ∃ (lr : Addr) (kind : Str) (xs : List V), vs = [.ref lr] ∧ H lr = some (.tup (.str kind :: xs)) ∧ kind ∈ kinds ∧ xs.length = (formsOf kind).length ∧ (∀ y ∈ xs, ∃ T, Gv H y T) ∧
  WaysL CN CM CS (xs.zip (formsOf kind)) H E (∀ (H' : Hp) (a : Addr), Same H H' → RowAt Cf H' a kind xs → Q (.ref a) H')
theorem kinds_end : ∀ kind ∈ kinds, ¬ kind = "begun" → ¬ kind = "setby" → ¬ kind = "found" → ¬ kind = "trusted" → ¬ kind = "passed" → ¬ kind = "failed" → ¬ kind = "agreed" → ¬ kind = "differed" → ¬ kind = "served" → kind = "backed" := by
  intro kind hk h0 h1 h2 h3 h4 h5 h6 h7 h8
  unfold kinds at hk
  simp only [List.mem_cons, List.not_mem_nil, or_false] at hk
  rcases hk with h | h | h | h | h | h | h | h | h | h <;> first | exact h | exact absurd h (by assumption)
theorem ok_made {CN CM CS f : Addr} {Cf : Str → Addr} {fd : FuncData} (F : Fun K "_law_made" "_law_made" sMade f fd) (R : Rows K P w mg base CN CM CS Cf) : FnOk P w K mg base (L2.CX P w) 8 f fd ["_law_row"] (spMade CN CM CS Cf) := by
  obtain ⟨f_begun, fd_begun, g_begun, m_begun, b_begun, G_begun⟩ := R.begun
  obtain ⟨f_setby, fd_setby, g_setby, m_setby, b_setby, G_setby⟩ := R.setby
  obtain ⟨f_found, fd_found, g_found, m_found, b_found, G_found⟩ := R.found
  obtain ⟨f_trusted, fd_trusted, g_trusted, m_trusted, b_trusted, G_trusted⟩ := R.trusted
  obtain ⟨f_passed, fd_passed, g_passed, m_passed, b_passed, G_passed⟩ := R.passed
  obtain ⟨f_failed, fd_failed, g_failed, m_failed, b_failed, G_failed⟩ := R.failed
  obtain ⟨f_agreed, fd_agreed, g_agreed, m_agreed, b_agreed, G_agreed⟩ := R.agreed
  obtain ⟨f_differed, fd_differed, g_differed, m_differed, b_differed, G_differed⟩ := R.differed
  obtain ⟨f_served, fd_served, g_served, m_served, b_served, G_served⟩ := R.served
  obtain ⟨f_backed, fd_backed, g_backed, m_backed, b_backed, G_backed⟩ := R.backed
  refine F.okX scMade (fun vs H Q E h => ?_) (fun cdv A outer s H vs Q E hr h => ?_)
  · obtain ⟨_, _, _, rfl, _⟩ := h
    rfl
  · obtain ⟨lr, kind, xs, rfl, hlr, hk, hl, hg, hw⟩ := h
    refine ⟨_, pss_cons (ps_set (i := 1) scMade.nd rfl (.inl rfl) (pe_ix ix_tup (pv 0) pe_int (fun _ _ => rfl)))
      (pss_cons (ps_if (pt_cmpR op_eq (pv 1) pe_str (nomark _)) (pss_one (ps_ret (pe_make m_begun G_begun hr (by rfl) g_begun b_begun .nil (passes_call (takes_of rfl rfl rfl rfl) (fun _ _ _ _ h => h)) (pa_cons (pe_ix ix_tup (pv 0) pe_int (fun _ _ => rfl)) (pa_cons (pe_ix ix_tup (pv 0) pe_int (fun _ _ => rfl)) pa_nil))))) pss_nil)
      (pss_cons (ps_if (pt_cmpR op_eq (pv 1) pe_str (nomark _)) (pss_one (ps_ret (pe_make m_setby G_setby hr (by rfl) g_setby b_setby .nil (passes_call (takes_of rfl rfl rfl rfl) (fun _ _ _ _ h => h)) (pa_cons (pe_ix ix_tup (pv 0) pe_int (fun _ _ => rfl)) (pa_cons (pe_ix ix_tup (pv 0) pe_int (fun _ _ => rfl)) (pa_cons (pe_ix ix_tup (pv 0) pe_int (fun _ _ => rfl)) pa_nil)))))) pss_nil)
      (pss_cons (ps_if (pt_cmpR op_eq (pv 1) pe_str (nomark _)) (pss_one (ps_ret (pe_make m_found G_found hr (by rfl) g_found b_found .nil (passes_call (takes_of rfl rfl rfl rfl) (fun _ _ _ _ h => h)) (pa_cons (pe_ix ix_tup (pv 0) pe_int (fun _ _ => rfl)) (pa_cons (pe_ix ix_tup (pv 0) pe_int (fun _ _ => rfl)) (pa_cons (pe_ix ix_tup (pv 0) pe_int (fun _ _ => rfl)) pa_nil)))))) pss_nil)
      (pss_cons (ps_if (pt_cmpR op_eq (pv 1) pe_str (nomark _)) (pss_one (ps_ret (pe_make m_trusted G_trusted hr (by rfl) g_trusted b_trusted .nil (passes_call (takes_of rfl rfl rfl rfl) (fun _ _ _ _ h => h)) (pa_cons (pe_ix ix_tup (pv 0) pe_int (fun _ _ => rfl)) pa_nil)))) pss_nil)
      (pss_cons (ps_if (pt_cmpR op_eq (pv 1) pe_str (nomark _)) (pss_one (ps_ret (pe_make m_passed G_passed hr (by rfl) g_passed b_passed .nil (passes_call (takes_of rfl rfl rfl rfl) (fun _ _ _ _ h => h)) (pa_cons (pe_ix ix_tup (pv 0) pe_int (fun _ _ => rfl)) (pa_cons (pe_ix ix_tup (pv 0) pe_int (fun _ _ => rfl)) (pa_cons (pe_ix ix_tup (pv 0) pe_int (fun _ _ => rfl)) pa_nil)))))) pss_nil)
      (pss_cons (ps_if (pt_cmpR op_eq (pv 1) pe_str (nomark _)) (pss_one (ps_ret (pe_make m_failed G_failed hr (by rfl) g_failed b_failed .nil (passes_call (takes_of rfl rfl rfl rfl) (fun _ _ _ _ h => h)) (pa_cons (pe_ix ix_tup (pv 0) pe_int (fun _ _ => rfl)) (pa_cons (pe_ix ix_tup (pv 0) pe_int (fun _ _ => rfl)) (pa_cons (pe_ix ix_tup (pv 0) pe_int (fun _ _ => rfl)) pa_nil)))))) pss_nil)
      (pss_cons (ps_if (pt_cmpR op_eq (pv 1) pe_str (nomark _)) (pss_one (ps_ret (pe_make m_agreed G_agreed hr (by rfl) g_agreed b_agreed .nil (passes_call (takes_of rfl rfl rfl rfl) (fun _ _ _ _ h => h)) (pa_cons (pe_ix ix_tup (pv 0) pe_int (fun _ _ => rfl)) (pa_cons (pe_ix ix_tup (pv 0) pe_int (fun _ _ => rfl)) (pa_cons (pe_ix ix_tup (pv 0) pe_int (fun _ _ => rfl)) (pa_cons (pe_ix ix_tup (pv 0) pe_int (fun _ _ => rfl)) pa_nil))))))) pss_nil)
      (pss_cons (ps_if (pt_cmpR op_eq (pv 1) pe_str (nomark _)) (pss_one (ps_ret (pe_make m_differed G_differed hr (by rfl) g_differed b_differed .nil (passes_call (takes_of rfl rfl rfl rfl) (fun _ _ _ _ h => h)) (pa_cons (pe_ix ix_tup (pv 0) pe_int (fun _ _ => rfl)) (pa_cons (pe_ix ix_tup (pv 0) pe_int (fun _ _ => rfl)) (pa_cons (pe_ix ix_tup (pv 0) pe_int (fun _ _ => rfl)) (pa_cons (pe_ix ix_tup (pv 0) pe_int (fun _ _ => rfl)) pa_nil))))))) pss_nil)
      (pss_cons (ps_if (pt_cmpR op_eq (pv 1) pe_str (nomark _)) (pss_one (ps_ret (pe_make m_served G_served hr (by rfl) g_served b_served .nil (passes_call (takes_of rfl rfl rfl rfl) (fun _ _ _ _ h => h)) (pa_cons (pe_ix ix_tup (pv 0) pe_int (fun _ _ => rfl)) (pa_cons (pe_ix ix_tup (pv 0) pe_int (fun _ _ => rfl)) (pa_cons (pe_ix ix_tup (pv 0) pe_int (fun _ _ => rfl)) (pa_cons (pe_ix ix_tup (pv 0) pe_int (fun _ _ => rfl)) pa_nil))))))) pss_nil)
      (pss_one (ps_ret (pe_make m_backed G_backed hr (by rfl) g_backed b_backed .nil (passes_call (takes_of rfl rfl rfl rfl) (fun _ _ _ _ h => h)) (pa_cons (pe_ix ix_tup (pv 0) pe_int (fun _ _ => rfl)) (pa_cons (pe_ix ix_tup (pv 0) pe_int (fun _ _ => rfl)) (pa_cons (pe_ix ix_tup (pv 0) pe_int (fun _ _ => rfl)) (pa_cons (pe_ix ix_tup (pv 0) pe_int (fun _ _ => rfl)) pa_nil)))))))))))))))), ?_⟩
    refine ⟨_, rfl, lr, _, _, _, rfl, rfl, SqT.of hlr, atI_nat (j := 0) rfl, ?_⟩
    refine ⟨_, rfl, rfl, _, rfl, ite2 (fun e => ?_) (fun e0 => ?_)⟩
    · obtain rfl : kind = "begun" := V.str.inj (of_decide_eq_true e)
      have hl4 : (formsOf "begun").length = 2 := by decide +kernel
      obtain ⟨v0, v1, rfl⟩ : ∃ v0 v1, xs = [v0, v1] := by
        rw [hl4] at hl
        match xs, hl with
        | [v0, v1], _ => exact ⟨_, _, rfl⟩
      exact ⟨_, rfl, lr, _, _, _, rfl, rfl, SqT.of hlr, atI_nat (j := 1) rfl, _, rfl, lr, _, _, _, rfl, rfl, SqT.of hlr, atI_nat (j := 2) rfl, made_row (xs := [v0, v1]) hl hg ⟨fun gd H' a dx fs s e lk => hw.1 gd H' a s ⟨dx, fs, e, lk⟩, hw.2⟩⟩
    refine ⟨_, rfl, rfl, _, rfl, ite2 (fun e => ?_) (fun e1 => ?_)⟩
    · obtain rfl : kind = "setby" := V.str.inj (of_decide_eq_true e)
      have hl4 : (formsOf "setby").length = 3 := by decide +kernel
      obtain ⟨v0, v1, v2, rfl⟩ : ∃ v0 v1 v2, xs = [v0, v1, v2] := by
        rw [hl4] at hl
        match xs, hl with
        | [v0, v1, v2], _ => exact ⟨_, _, _, rfl⟩
      exact ⟨_, rfl, lr, _, _, _, rfl, rfl, SqT.of hlr, atI_nat (j := 1) rfl, _, rfl, lr, _, _, _, rfl, rfl, SqT.of hlr, atI_nat (j := 2) rfl, _, rfl, lr, _, _, _, rfl, rfl, SqT.of hlr, atI_nat (j := 3) rfl, made_row (xs := [v0, v1, v2]) hl hg ⟨fun gd H' a dx fs s e lk => hw.1 gd H' a s ⟨dx, fs, e, lk⟩, hw.2⟩⟩
    refine ⟨_, rfl, rfl, _, rfl, ite2 (fun e => ?_) (fun e2 => ?_)⟩
    · obtain rfl : kind = "found" := V.str.inj (of_decide_eq_true e)
      have hl4 : (formsOf "found").length = 3 := by decide +kernel
      obtain ⟨v0, v1, v2, rfl⟩ : ∃ v0 v1 v2, xs = [v0, v1, v2] := by
        rw [hl4] at hl
        match xs, hl with
        | [v0, v1, v2], _ => exact ⟨_, _, _, rfl⟩
      exact ⟨_, rfl, lr, _, _, _, rfl, rfl, SqT.of hlr, atI_nat (j := 1) rfl, _, rfl, lr, _, _, _, rfl, rfl, SqT.of hlr, atI_nat (j := 2) rfl, _, rfl, lr, _, _, _, rfl, rfl, SqT.of hlr, atI_nat (j := 3) rfl, made_row (xs := [v0, v1, v2]) hl hg ⟨fun gd H' a dx fs s e lk => hw.1 gd H' a s ⟨dx, fs, e, lk⟩, hw.2⟩⟩
    refine ⟨_, rfl, rfl, _, rfl, ite2 (fun e => ?_) (fun e3 => ?_)⟩
    · obtain rfl : kind = "trusted" := V.str.inj (of_decide_eq_true e)
      have hl4 : (formsOf "trusted").length = 1 := by decide +kernel
      obtain ⟨v0, rfl⟩ : ∃ v0, xs = [v0] := by
        rw [hl4] at hl
        match xs, hl with
        | [v0], _ => exact ⟨_, rfl⟩
      exact ⟨_, rfl, lr, _, _, _, rfl, rfl, SqT.of hlr, atI_nat (j := 1) rfl, made_row (xs := [v0]) hl hg ⟨fun gd H' a dx fs s e lk => hw.1 gd H' a s ⟨dx, fs, e, lk⟩, hw.2⟩⟩
    refine ⟨_, rfl, rfl, _, rfl, ite2 (fun e => ?_) (fun e4 => ?_)⟩
    · obtain rfl : kind = "passed" := V.str.inj (of_decide_eq_true e)
      have hl4 : (formsOf "passed").length = 3 := by decide +kernel
      obtain ⟨v0, v1, v2, rfl⟩ : ∃ v0 v1 v2, xs = [v0, v1, v2] := by
        rw [hl4] at hl
        match xs, hl with
        | [v0, v1, v2], _ => exact ⟨_, _, _, rfl⟩
      exact ⟨_, rfl, lr, _, _, _, rfl, rfl, SqT.of hlr, atI_nat (j := 1) rfl, _, rfl, lr, _, _, _, rfl, rfl, SqT.of hlr, atI_nat (j := 2) rfl, _, rfl, lr, _, _, _, rfl, rfl, SqT.of hlr, atI_nat (j := 3) rfl, made_row (xs := [v0, v1, v2]) hl hg ⟨fun gd H' a dx fs s e lk => hw.1 gd H' a s ⟨dx, fs, e, lk⟩, hw.2⟩⟩
    refine ⟨_, rfl, rfl, _, rfl, ite2 (fun e => ?_) (fun e5 => ?_)⟩
    · obtain rfl : kind = "failed" := V.str.inj (of_decide_eq_true e)
      have hl4 : (formsOf "failed").length = 3 := by decide +kernel
      obtain ⟨v0, v1, v2, rfl⟩ : ∃ v0 v1 v2, xs = [v0, v1, v2] := by
        rw [hl4] at hl
        match xs, hl with
        | [v0, v1, v2], _ => exact ⟨_, _, _, rfl⟩
      exact ⟨_, rfl, lr, _, _, _, rfl, rfl, SqT.of hlr, atI_nat (j := 1) rfl, _, rfl, lr, _, _, _, rfl, rfl, SqT.of hlr, atI_nat (j := 2) rfl, _, rfl, lr, _, _, _, rfl, rfl, SqT.of hlr, atI_nat (j := 3) rfl, made_row (xs := [v0, v1, v2]) hl hg ⟨fun gd H' a dx fs s e lk => hw.1 gd H' a s ⟨dx, fs, e, lk⟩, hw.2⟩⟩
    refine ⟨_, rfl, rfl, _, rfl, ite2 (fun e => ?_) (fun e6 => ?_)⟩
    · obtain rfl : kind = "agreed" := V.str.inj (of_decide_eq_true e)
      have hl4 : (formsOf "agreed").length = 4 := by decide +kernel
      obtain ⟨v0, v1, v2, v3, rfl⟩ : ∃ v0 v1 v2 v3, xs = [v0, v1, v2, v3] := by
        rw [hl4] at hl
        match xs, hl with
        | [v0, v1, v2, v3], _ => exact ⟨_, _, _, _, rfl⟩
      exact ⟨_, rfl, lr, _, _, _, rfl, rfl, SqT.of hlr, atI_nat (j := 1) rfl, _, rfl, lr, _, _, _, rfl, rfl, SqT.of hlr, atI_nat (j := 2) rfl, _, rfl, lr, _, _, _, rfl, rfl, SqT.of hlr, atI_nat (j := 3) rfl, _, rfl, lr, _, _, _, rfl, rfl, SqT.of hlr, atI_nat (j := 4) rfl, made_row (xs := [v0, v1, v2, v3]) hl hg ⟨fun gd H' a dx fs s e lk => hw.1 gd H' a s ⟨dx, fs, e, lk⟩, hw.2⟩⟩
    refine ⟨_, rfl, rfl, _, rfl, ite2 (fun e => ?_) (fun e7 => ?_)⟩
    · obtain rfl : kind = "differed" := V.str.inj (of_decide_eq_true e)
      have hl4 : (formsOf "differed").length = 4 := by decide +kernel
      obtain ⟨v0, v1, v2, v3, rfl⟩ : ∃ v0 v1 v2 v3, xs = [v0, v1, v2, v3] := by
        rw [hl4] at hl
        match xs, hl with
        | [v0, v1, v2, v3], _ => exact ⟨_, _, _, _, rfl⟩
      exact ⟨_, rfl, lr, _, _, _, rfl, rfl, SqT.of hlr, atI_nat (j := 1) rfl, _, rfl, lr, _, _, _, rfl, rfl, SqT.of hlr, atI_nat (j := 2) rfl, _, rfl, lr, _, _, _, rfl, rfl, SqT.of hlr, atI_nat (j := 3) rfl, _, rfl, lr, _, _, _, rfl, rfl, SqT.of hlr, atI_nat (j := 4) rfl, made_row (xs := [v0, v1, v2, v3]) hl hg ⟨fun gd H' a dx fs s e lk => hw.1 gd H' a s ⟨dx, fs, e, lk⟩, hw.2⟩⟩
    refine ⟨_, rfl, rfl, _, rfl, ite2 (fun e => ?_) (fun e8 => ?_)⟩
    · obtain rfl : kind = "served" := V.str.inj (of_decide_eq_true e)
      have hl4 : (formsOf "served").length = 4 := by decide +kernel
      obtain ⟨v0, v1, v2, v3, rfl⟩ : ∃ v0 v1 v2 v3, xs = [v0, v1, v2, v3] := by
        rw [hl4] at hl
        match xs, hl with
        | [v0, v1, v2, v3], _ => exact ⟨_, _, _, _, rfl⟩
      exact ⟨_, rfl, lr, _, _, _, rfl, rfl, SqT.of hlr, atI_nat (j := 1) rfl, _, rfl, lr, _, _, _, rfl, rfl, SqT.of hlr, atI_nat (j := 2) rfl, _, rfl, lr, _, _, _, rfl, rfl, SqT.of hlr, atI_nat (j := 3) rfl, _, rfl, lr, _, _, _, rfl, rfl, SqT.of hlr, atI_nat (j := 4) rfl, made_row (xs := [v0, v1, v2, v3]) hl hg ⟨fun gd H' a dx fs s e lk => hw.1 gd H' a s ⟨dx, fs, e, lk⟩, hw.2⟩⟩
    obtain rfl : kind = "backed" := kinds_end kind hk (fun z => e0 (decide_eq_true (by rw [z]))) (fun z => e1 (decide_eq_true (by rw [z]))) (fun z => e2 (decide_eq_true (by rw [z]))) (fun z => e3 (decide_eq_true (by rw [z]))) (fun z => e4 (decide_eq_true (by rw [z]))) (fun z => e5 (decide_eq_true (by rw [z]))) (fun z => e6 (decide_eq_true (by rw [z]))) (fun z => e7 (decide_eq_true (by rw [z]))) (fun z => e8 (decide_eq_true (by rw [z])))
    have hl4 : (formsOf "backed").length = 4 := by decide +kernel
    obtain ⟨v0, v1, v2, v3, rfl⟩ : ∃ v0 v1 v2 v3, xs = [v0, v1, v2, v3] := by
      rw [hl4] at hl
      match xs, hl with
      | [v0, v1, v2, v3], _ => exact ⟨_, _, _, _, rfl⟩
    exact ⟨_, rfl, lr, _, _, _, rfl, rfl, SqT.of hlr, atI_nat (j := 1) rfl, _, rfl, lr, _, _, _, rfl, rfl, SqT.of hlr, atI_nat (j := 2) rfl, _, rfl, lr, _, _, _, rfl, rfl, SqT.of hlr, atI_nat (j := 3) rfl, _, rfl, lr, _, _, _, rfl, rfl, SqT.of hlr, atI_nat (j := 4) rfl, made_row (xs := [v0, v1, v2, v3]) hl hg ⟨fun gd H' a dx fs s e lk => hw.1 gd H' a s ⟨dx, fs, e, lk⟩, hw.2⟩⟩
end
end K14

namespace K14
open PySem PySem.Spec PyProof.Rows L2 So LamX
abbrev sMadeRow : Stmt := topS 43
theorem scMadeRow : FnScope ["kind", "told"] ["kind", "told"] (defScope sMadeRow) := ⟨rfl, rfl, rfl, by decide +kernel, rfl, by decide +kernel, by decide +kernel⟩
section
variable {P : Program} {w : World} {K : PySem.W.Frag} {mg : Str → Option Value} {base : Heap}
def spMadeRow (K : PySem.W.Frag) (CN CM CS : Addr) (Cf : Str → Addr) : Sp := fun vs H Q E => ∃ (lr : Addr) (kind : Str) (xs : List V), vs = [.str kind, .ref lr] ∧ H lr = some (.lst xs) ∧ kind ∈ kinds ∧ xs.length = (formsOf kind).length ∧ (∀ y ∈ xs, ∃ T, Gv H y T) ∧
  WaysL CN CM CS (xs.zip (formsOf kind)) H E (∀ (H' : Hp) (a : Addr), Same H H' → RowAt Cf H' a kind xs → Q (.ref a) H')
theorem madeRow0 {CN CM CS C : Addr} {kind : Str} {xs : List V} {H : Hp} {Q : VK} {E : XK} (hl : xs.length = (formsOf kind).length) (hg : ∀ y ∈ xs, ∃ T, Gv H y T)
    (h : WaysL CN CM CS (xs.zip (formsOf kind)) H E (∀ (H' : Hp) (a dx : Addr) fs, Same H H' → H' a = some (.ins C dx fs) → Told kind xs H' fs → Q (.ref a) H')) :
    ∀ x dx, H x = none → H dx = none → dx ≠ x → spRow CN CM CS C kind (.ref x :: xs) (upd (upd H dx (.own x)) x (.ins C dx [])) (fun v H2 => v = .non ∧ Q (.ref x) H2) E := by
  have := made_row hl hg h
  rw [List.append_nil] at this
  exact this
theorem ok_madeRow {CN CM CS f : Addr} {Cf : Str → Addr} {fd : FuncData} (F : Fun K "made_row" "made_row" sMadeRow f fd) (R : Rows K P w mg base CN CM CS Cf) : FnOk P w K mg base (L2.CX P w) 8 f fd ["kind", "told"] (spMadeRow K CN CM CS Cf) := by
  obtain ⟨f_begun, fd_begun, g_begun, m_begun, b_begun, G_begun⟩ := R.begun
  obtain ⟨f_setby, fd_setby, g_setby, m_setby, b_setby, G_setby⟩ := R.setby
  obtain ⟨f_found, fd_found, g_found, m_found, b_found, G_found⟩ := R.found
  obtain ⟨f_trusted, fd_trusted, g_trusted, m_trusted, b_trusted, G_trusted⟩ := R.trusted
  obtain ⟨f_passed, fd_passed, g_passed, m_passed, b_passed, G_passed⟩ := R.passed
  obtain ⟨f_failed, fd_failed, g_failed, m_failed, b_failed, G_failed⟩ := R.failed
  obtain ⟨f_agreed, fd_agreed, g_agreed, m_agreed, b_agreed, G_agreed⟩ := R.agreed
  obtain ⟨f_differed, fd_differed, g_differed, m_differed, b_differed, G_differed⟩ := R.differed
  obtain ⟨f_served, fd_served, g_served, m_served, b_served, G_served⟩ := R.served
  obtain ⟨f_backed, fd_backed, g_backed, m_backed, b_backed, G_backed⟩ := R.backed
  refine F.okX scMadeRow (fun vs H Q E h => ?_) (fun cdv A outer s H vs Q E hr h => ?_)
  · obtain ⟨_, _, _, rfl, _⟩ := h
    rfl
  · obtain ⟨lr, kind, xs, rfl, hlr, hk, hl, hg, hw⟩ := h
    have hlr : SqT K H lr xs ∨ SqL K H lr xs := .inr (SqL.of hlr)
    refine ⟨_, pss_cons (ps_if (pt_cmpR op_eq (pv 0) pe_str (nomark _)) (pss_one (ps_ret (pe_makeS1 m_begun (fnR_of G_begun b_begun) hr (by rfl) g_begun (passes_call (takes_of rfl rfl rfl rfl) (fun _ _ _ _ h => h)) (pv 1)))) pss_nil)
      (pss_cons (ps_if (pt_cmpR op_eq (pv 0) pe_str (nomark _)) (pss_one (ps_ret (pe_makeS1 m_setby (fnR_of G_setby b_setby) hr (by rfl) g_setby (passes_call (takes_of rfl rfl rfl rfl) (fun _ _ _ _ h => h)) (pv 1)))) pss_nil)
      (pss_cons (ps_if (pt_cmpR op_eq (pv 0) pe_str (nomark _)) (pss_one (ps_ret (pe_makeS1 m_found (fnR_of G_found b_found) hr (by rfl) g_found (passes_call (takes_of rfl rfl rfl rfl) (fun _ _ _ _ h => h)) (pv 1)))) pss_nil)
      (pss_cons (ps_if (pt_cmpR op_eq (pv 0) pe_str (nomark _)) (pss_one (ps_ret (pe_makeS1 m_trusted (fnR_of G_trusted b_trusted) hr (by rfl) g_trusted (passes_call (takes_of rfl rfl rfl rfl) (fun _ _ _ _ h => h)) (pv 1)))) pss_nil)
      (pss_cons (ps_if (pt_cmpR op_eq (pv 0) pe_str (nomark _)) (pss_one (ps_ret (pe_makeS1 m_passed (fnR_of G_passed b_passed) hr (by rfl) g_passed (passes_call (takes_of rfl rfl rfl rfl) (fun _ _ _ _ h => h)) (pv 1)))) pss_nil)
      (pss_cons (ps_if (pt_cmpR op_eq (pv 0) pe_str (nomark _)) (pss_one (ps_ret (pe_makeS1 m_failed (fnR_of G_failed b_failed) hr (by rfl) g_failed (passes_call (takes_of rfl rfl rfl rfl) (fun _ _ _ _ h => h)) (pv 1)))) pss_nil)
      (pss_cons (ps_if (pt_cmpR op_eq (pv 0) pe_str (nomark _)) (pss_one (ps_ret (pe_makeS1 m_agreed (fnR_of G_agreed b_agreed) hr (by rfl) g_agreed (passes_call (takes_of rfl rfl rfl rfl) (fun _ _ _ _ h => h)) (pv 1)))) pss_nil)
      (pss_cons (ps_if (pt_cmpR op_eq (pv 0) pe_str (nomark _)) (pss_one (ps_ret (pe_makeS1 m_differed (fnR_of G_differed b_differed) hr (by rfl) g_differed (passes_call (takes_of rfl rfl rfl rfl) (fun _ _ _ _ h => h)) (pv 1)))) pss_nil)
      (pss_cons (ps_if (pt_cmpR op_eq (pv 0) pe_str (nomark _)) (pss_one (ps_ret (pe_makeS1 m_served (fnR_of G_served b_served) hr (by rfl) g_served (passes_call (takes_of rfl rfl rfl rfl) (fun _ _ _ _ h => h)) (pv 1)))) pss_nil)
      (pss_one (ps_ret (pe_makeS1 m_backed (fnR_of G_backed b_backed) hr (by rfl) g_backed (passes_call (takes_of rfl rfl rfl rfl) (fun _ _ _ _ h => h)) (pv 1)))))))))))), ?_⟩
    refine ⟨_, rfl, rfl, _, rfl, ite2 (fun e => ?_) (fun e0 => ?_)⟩
    · obtain rfl : kind = "begun" := V.str.inj (of_decide_eq_true e)
      have hl4 : (formsOf "begun").length = 2 := by decide +kernel
      obtain ⟨v0, v1, rfl⟩ : ∃ v0 v1, xs = [v0, v1] := by
        rw [hl4] at hl
        match xs, hl with
        | [v0, v1], _ => exact ⟨_, _, rfl⟩
      exact ⟨_, rfl, lr, [v0, v1], rfl, hlr, madeRow0 (xs := [v0, v1]) hl hg ⟨fun gd H' a dx fs s e lk => hw.1 gd H' a s ⟨dx, fs, e, lk⟩, hw.2⟩⟩
    refine ⟨_, rfl, rfl, _, rfl, ite2 (fun e => ?_) (fun e1 => ?_)⟩
    · obtain rfl : kind = "setby" := V.str.inj (of_decide_eq_true e)
      have hl4 : (formsOf "setby").length = 3 := by decide +kernel
      obtain ⟨v0, v1, v2, rfl⟩ : ∃ v0 v1 v2, xs = [v0, v1, v2] := by
        rw [hl4] at hl
        match xs, hl with
        | [v0, v1, v2], _ => exact ⟨_, _, _, rfl⟩
      exact ⟨_, rfl, lr, [v0, v1, v2], rfl, hlr, madeRow0 (xs := [v0, v1, v2]) hl hg ⟨fun gd H' a dx fs s e lk => hw.1 gd H' a s ⟨dx, fs, e, lk⟩, hw.2⟩⟩
    refine ⟨_, rfl, rfl, _, rfl, ite2 (fun e => ?_) (fun e2 => ?_)⟩
    · obtain rfl : kind = "found" := V.str.inj (of_decide_eq_true e)
      have hl4 : (formsOf "found").length = 3 := by decide +kernel
      obtain ⟨v0, v1, v2, rfl⟩ : ∃ v0 v1 v2, xs = [v0, v1, v2] := by
        rw [hl4] at hl
        match xs, hl with
        | [v0, v1, v2], _ => exact ⟨_, _, _, rfl⟩
      exact ⟨_, rfl, lr, [v0, v1, v2], rfl, hlr, madeRow0 (xs := [v0, v1, v2]) hl hg ⟨fun gd H' a dx fs s e lk => hw.1 gd H' a s ⟨dx, fs, e, lk⟩, hw.2⟩⟩
    refine ⟨_, rfl, rfl, _, rfl, ite2 (fun e => ?_) (fun e3 => ?_)⟩
    · obtain rfl : kind = "trusted" := V.str.inj (of_decide_eq_true e)
      have hl4 : (formsOf "trusted").length = 1 := by decide +kernel
      obtain ⟨v0, rfl⟩ : ∃ v0, xs = [v0] := by
        rw [hl4] at hl
        match xs, hl with
        | [v0], _ => exact ⟨_, rfl⟩
      exact ⟨_, rfl, lr, [v0], rfl, hlr, madeRow0 (xs := [v0]) hl hg ⟨fun gd H' a dx fs s e lk => hw.1 gd H' a s ⟨dx, fs, e, lk⟩, hw.2⟩⟩
    refine ⟨_, rfl, rfl, _, rfl, ite2 (fun e => ?_) (fun e4 => ?_)⟩
    · obtain rfl : kind = "passed" := V.str.inj (of_decide_eq_true e)
      have hl4 : (formsOf "passed").length = 3 := by decide +kernel
      obtain ⟨v0, v1, v2, rfl⟩ : ∃ v0 v1 v2, xs = [v0, v1, v2] := by
        rw [hl4] at hl
        match xs, hl with
        | [v0, v1, v2], _ => exact ⟨_, _, _, rfl⟩
      exact ⟨_, rfl, lr, [v0, v1, v2], rfl, hlr, madeRow0 (xs := [v0, v1, v2]) hl hg ⟨fun gd H' a dx fs s e lk => hw.1 gd H' a s ⟨dx, fs, e, lk⟩, hw.2⟩⟩
    refine ⟨_, rfl, rfl, _, rfl, ite2 (fun e => ?_) (fun e5 => ?_)⟩
    · obtain rfl : kind = "failed" := V.str.inj (of_decide_eq_true e)
      have hl4 : (formsOf "failed").length = 3 := by decide +kernel
      obtain ⟨v0, v1, v2, rfl⟩ : ∃ v0 v1 v2, xs = [v0, v1, v2] := by
        rw [hl4] at hl
        match xs, hl with
        | [v0, v1, v2], _ => exact ⟨_, _, _, rfl⟩
      exact ⟨_, rfl, lr, [v0, v1, v2], rfl, hlr, madeRow0 (xs := [v0, v1, v2]) hl hg ⟨fun gd H' a dx fs s e lk => hw.1 gd H' a s ⟨dx, fs, e, lk⟩, hw.2⟩⟩
    refine ⟨_, rfl, rfl, _, rfl, ite2 (fun e => ?_) (fun e6 => ?_)⟩
    · obtain rfl : kind = "agreed" := V.str.inj (of_decide_eq_true e)
      have hl4 : (formsOf "agreed").length = 4 := by decide +kernel
      obtain ⟨v0, v1, v2, v3, rfl⟩ : ∃ v0 v1 v2 v3, xs = [v0, v1, v2, v3] := by
        rw [hl4] at hl
        match xs, hl with
        | [v0, v1, v2, v3], _ => exact ⟨_, _, _, _, rfl⟩
      exact ⟨_, rfl, lr, [v0, v1, v2, v3], rfl, hlr, madeRow0 (xs := [v0, v1, v2, v3]) hl hg ⟨fun gd H' a dx fs s e lk => hw.1 gd H' a s ⟨dx, fs, e, lk⟩, hw.2⟩⟩
    refine ⟨_, rfl, rfl, _, rfl, ite2 (fun e => ?_) (fun e7 => ?_)⟩
    · obtain rfl : kind = "differed" := V.str.inj (of_decide_eq_true e)
      have hl4 : (formsOf "differed").length = 4 := by decide +kernel
      obtain ⟨v0, v1, v2, v3, rfl⟩ : ∃ v0 v1 v2 v3, xs = [v0, v1, v2, v3] := by
        rw [hl4] at hl
        match xs, hl with
        | [v0, v1, v2, v3], _ => exact ⟨_, _, _, _, rfl⟩
      exact ⟨_, rfl, lr, [v0, v1, v2, v3], rfl, hlr, madeRow0 (xs := [v0, v1, v2, v3]) hl hg ⟨fun gd H' a dx fs s e lk => hw.1 gd H' a s ⟨dx, fs, e, lk⟩, hw.2⟩⟩
    refine ⟨_, rfl, rfl, _, rfl, ite2 (fun e => ?_) (fun e8 => ?_)⟩
    · obtain rfl : kind = "served" := V.str.inj (of_decide_eq_true e)
      have hl4 : (formsOf "served").length = 4 := by decide +kernel
      obtain ⟨v0, v1, v2, v3, rfl⟩ : ∃ v0 v1 v2 v3, xs = [v0, v1, v2, v3] := by
        rw [hl4] at hl
        match xs, hl with
        | [v0, v1, v2, v3], _ => exact ⟨_, _, _, _, rfl⟩
      exact ⟨_, rfl, lr, [v0, v1, v2, v3], rfl, hlr, madeRow0 (xs := [v0, v1, v2, v3]) hl hg ⟨fun gd H' a dx fs s e lk => hw.1 gd H' a s ⟨dx, fs, e, lk⟩, hw.2⟩⟩
    obtain rfl : kind = "backed" := kinds_end kind hk (fun z => e0 (decide_eq_true (by rw [z]))) (fun z => e1 (decide_eq_true (by rw [z]))) (fun z => e2 (decide_eq_true (by rw [z]))) (fun z => e3 (decide_eq_true (by rw [z]))) (fun z => e4 (decide_eq_true (by rw [z]))) (fun z => e5 (decide_eq_true (by rw [z]))) (fun z => e6 (decide_eq_true (by rw [z]))) (fun z => e7 (decide_eq_true (by rw [z]))) (fun z => e8 (decide_eq_true (by rw [z])))
    have hl4 : (formsOf "backed").length = 4 := by decide +kernel
    obtain ⟨v0, v1, v2, v3, rfl⟩ : ∃ v0 v1 v2 v3, xs = [v0, v1, v2, v3] := by
      rw [hl4] at hl
      match xs, hl with
      | [v0, v1, v2, v3], _ => exact ⟨_, _, _, _, rfl⟩
    exact ⟨_, rfl, lr, [v0, v1, v2, v3], rfl, hlr, madeRow0 (xs := [v0, v1, v2, v3]) hl hg ⟨fun gd H' a dx fs s e lk => hw.1 gd H' a s ⟨dx, fs, e, lk⟩, hw.2⟩⟩
end
end K14

namespace K14
open PySem PySem.Spec PyProof.Rows L2 So LamX StX
abbrev sEqR : Stmt := inClass (topS 29) 9
abbrev sStrR : Stmt := inClass (topS 29) 10
theorem scEqR : FnScope ["self", "other"] ["self", "other"] (defScope sEqR) := ⟨rfl, rfl, rfl, by decide +kernel, rfl, by decide +kernel, by decide +kernel⟩
theorem scStrR : FnScope ["self", "words", "value"] ["self"] (defScope sStrR) := ⟨rfl, rfl, rfl, by decide +kernel, rfl, by decide +kernel, by decide +kernel⟩
/-! ### what is known of a name, a moment -/
theorem name_small {z : Str} (h : isName z = true) : ∀ c ∈ z.cps.toList, c < 128 := by
  have aln : ∀ c ∈ (letters ++ digits).cps.toList, c < 128 := by decide +kernel
  unfold isName at h
  simp only [Bool.and_eq_true] at h
  intro c hc
  exact aln c (of_decide_eq_true (List.all_eq_true.mp h.2 c hc))
theorem name_strOk {z : Str} (h : isName z = true) : PyData.strOk z = true := by
  unfold PyData.strOk
  rw [← Array.all_toList]
  exact List.all_eq_true.mpr fun c hc => decide_eq_true (Nat.lt_trans (name_small h c hc) (by decide))
theorem name_len {z : Str} (h : isName z = true) : z.length ≤ 8 := by
  unfold isName at h
  simp only [Bool.and_eq_true, decide_eq_true_eq] at h
  exact h.1.1.1.2
theorem mom_log {m : Int} (h : 0 ≤ m ∧ m ≤ 1000000000000000000000000000000) : m.natAbs.log2 < 1920 := by
  have : m.natAbs < 2 ^ 100 := by omega
  exact Nat.lt_of_lt_of_le (PySem.Flt.log2_lt_of (by decide) this) (by decide)
theorem mom_len {m : Int} (h : 0 ≤ m ∧ m ≤ 1000000000000000000000000000000) : (Str.ofString (toString m)).length ≤ 200 := by
  rw [PyProof.Rows.ofString_length]
  have : m.natAbs.log2 < 101 := PySem.Flt.log2_lt_of (by decide) (by omega : m.natAbs < 2 ^ 101)
  exact Nat.le_trans (int_text_length_le (k := 101) (by decide) this) (by decide)
/-- flat values as data -/
theorem flat_data : ∀ {xs : List V}, (∀ v ∈ xs, Flat1 v) → ∃ ds, flatDs xs = some ds ∧ PyData.canLayAll0 ds = true ∧ PyData.depthAll ds = 0 ∧ PyData.eqvAll ds ds = true
  | [], _ => ⟨[], rfl, rfl, rfl, rfl⟩
  | v :: r, h => by
    obtain ⟨ds, h1, h2, h3, h4⟩ := flat_data (xs := r) fun x hx => h x (List.mem_cons_of_mem _ hx)
    have hv := h v List.mem_cons_self
    cases hv with
    | @nam z hz => exact ⟨.str z :: ds, by unfold flatDs flatD; rw [h1], by simp [PyData.canLayAll0, PyData.canLay0, name_strOk hz, h2], by simp [PyData.depthAll, PyData.depth, h3], by simp [PyData.eqvAll, PyData.eqv, h4]⟩
    | @mom m hm => exact ⟨.int m :: ds, by unfold flatDs flatD; rw [h1], by simp [PyData.canLayAll0, PyData.canLay0, h2], by simp [PyData.depthAll, PyData.depth, h3], by simp [PyData.eqvAll, PyData.eqv, h4]⟩
    | @tru b => exact ⟨.bool b :: ds, by unfold flatDs flatD; rw [h1], by simp [PyData.canLayAll0, PyData.canLay0, h2], by simp [PyData.depthAll, PyData.depth, h3], by simp [PyData.eqvAll, PyData.eqv, h4]⟩
theorem flat_tup {xs : List V} (h : ∀ v ∈ xs, Flat1 v) : ∃ d : PyData, SeqAt.shaped d = true ∧ PyData.eqv d d = true ∧ ∀ (K : PySem.W.Frag) (H : Hp) (p : Addr), H p = some (.tup xs) → Dp K H (.ref p) d := by
  obtain ⟨ds, h1, h2, h3, h4⟩ := flat_data h
  refine ⟨.tuple ds, ?_, ?_, fun K H p e => .tup (SqT.of e) (flatDs_dp h1)⟩
  · unfold SeqAt.shaped
    simp [PyData.canLay0, h2, PyData.depth, h3]
  · simp [PyData.eqv, h4]
theorem FlatRow.flat {kind : Str} {xs : List V} (h : FlatRow kind xs) : ∀ v ∈ xs, Flat1 v := by
  intro v hv
  obtain ⟨i, hi, e⟩ := List.mem_iff_getElem.mp hv
  have hz : (v, (formsOf kind)[i]'(by rw [← h.1]; exact hi)) ∈ xs.zip (formsOf kind) := List.mem_of_getElem? (i := i) (by
    rw [List.getElem?_zip_eq_some]
    exact ⟨by rw [List.getElem?_eq_getElem hi, e], List.getElem?_eq_getElem _⟩)
  exact (h.2 _ hz).2
/-! ### the text of a row -/
def wordV : V → Str
  | .str z => z
  | .int i => (toString i : String)
  | .bl b => if b then "sound" else "unsound"
  | _ => Str.empty
def rowText (kind : Str) (xs : List V) : Str := Txt.join " " (kind :: xs.map wordV)
theorem word_len {v : V} (h : Flat1 v) : (wordV v).length ≤ 200 := by
  cases h with
  | nam h => exact Nat.le_trans (name_len h) (by decide)
  | mom h => exact mom_len h
  | tru b => cases b <;> decide +kernel
theorem words_sum : ∀ {xs : List V}, (∀ v ∈ xs, Flat1 v) → ((xs.map wordV).map (·.length)).sum ≤ 200 * xs.length
  | [], _ => Nat.le_refl _
  | v :: r, h => by
    have h1 := word_len (h v List.mem_cons_self)
    have h2 := words_sum (xs := r) fun x hx => h x (List.mem_cons_of_mem _ hx)
    simp only [List.map_cons, List.sum_cons, List.length_cons]
    omega
theorem kind_len : ∀ kind ∈ kinds, kind.length ≤ 8 := by decide +kernel
theorem forms_len : ∀ kind ∈ kinds, (formsOf kind).length ≤ 4 := by decide +kernel
/-- what the top says of the rows' classes -/
structure RowsC (K : PySem.W.Frag) (mg : Str → Option Value) (Cf : Str → Addr) (CR : Addr) : Prop where
  gR : mg "Row" = some (.ref CR)
  c : ∀ kind ∈ kinds, RowC K (Cf kind) ("_told" :: "kind" :: attrsOf kind)
  kR : ∀ kind ∈ kinds, PySem.W.kitOne K (.ref (Cf kind)) (.ref CR) = some true
  ha : ∀ kind ∈ kinds, PySem.W.findIn K (.ref (Cf kind)) "__class__" = some (some (.builtin "object.__class__"))
  hn : PySem.W.specialIn K (.builtin "object.__class__") "__get__" = some (some (.builtin "getset_descriptor.__get__"))
  htk : PySem.W.takesIn K (.builtin "object.__class__") = some true
  hm : ∀ kind ∈ kinds, PySem.W.mroIn K (Cf kind) (.type "object") = some true
section
variable {P : Program} {w : World} {K : PySem.W.Frag} {mg : Str → Option Value} {base : Heap}
/-- word_of -/
def spWordOf : Sp := fun vs H Q _ => ∃ v, vs = [v] ∧ Flat1 v ∧ Q (.str (wordV v)) H
theorem ok_wordOf {f : Addr} {fd : FuncData} (F : Fun K "word_of" "word_of" sWordOf f fd) (W : Words K mg) : FnOk P w K mg base CX0 1 f fd ["value"] spWordOf := by
  refine F.ok scWordOf (fun vs H Q E h => ?_) (fun cdv A outer s H vs Q E hr h => ?_)
  · obtain ⟨_, rfl, _⟩ := h
    rfl
  · obtain ⟨v, rfl, hv, q⟩ := h
    refine ⟨_, pss_cons (ps_if (pt_val (pe_callB call_isi (by rfl) W.isi (by decide +kernel) (pa_cons (pv 0) (pa_cons (pe_bltn (v := .ty "bool") (by rfl) W.bool (by decide +kernel) rfl) pa_nil))))
      (pss_one (ps_ret (pe_ifExp (pt_val (pv 0)) pe_str pe_str))) pss_nil) (pss_one (ps_ret (pe_callTy (So.CallR.or SkE.call_str_str call_str_int) (by rfl) W.str (by decide +kernel) (pa_cons (pv 0) pa_nil)))), ?_⟩
    cases hv with
    | @nam z hz => exact ⟨_, rfl, _, _, _, _, false, rfl, .ty "bool", (Gv.str z (Nat.le_trans (name_len hz) (by decide))).ty, kit_ty (by decide +kernel), false, rfl, iteF ⟨_, rfl, .inl ⟨z, rfl, q⟩⟩⟩
    | @mom i hi => exact ⟨_, rfl, _, _, _, _, false, rfl, .ty "bool", (Gv.int i).ty, kit_int_bool, false, rfl, iteF ⟨_, rfl, .inr ⟨i, rfl, mom_log hi, q⟩⟩⟩
    | @tru b =>
      refine ⟨_, rfl, _, _, _, _, true, rfl, .ty "bool", .base (.bl b), kit_bool_bool, true, rfl, iteT ?_⟩
      refine ⟨_, rfl, b, rfl, ?_⟩
      cases b with
      | true => exact iteT q
      | false => exact iteF q
/-- the text of a row -/
def spStrR (Cf : Str → Addr) : Sp := fun vs H Q _ => ∃ (a : Addr) (kind : Str) (xs : List V), vs = [.ref a] ∧ kind ∈ kinds ∧ FlatRow kind xs ∧ RowAt Cf H a kind xs ∧ ∀ H', Same H H' → Q (.str (rowText kind xs)) H'
theorem ok_strR {Cf : Str → Addr} {CR f fW : Addr} {fd fdW : FuncData} (F : Fun K "__str__" "Row.__str__" sStrR f fd) (T : RowsC K mg Cf CR) (FW : Fun K "word_of" "word_of" sWordOf fW fdW) (bW : Binds K fdW ["value"] []) (gW : mg "word_of" = some (.ref fW)) (GW : FnOk P w K mg base CX0 1 fW fdW ["value"] spWordOf) :
    FnOk P w K mg base CX0 2 f fd ["self"] (spStrR Cf) := by
  refine F.ok scStrR (fun vs H Q E h => ?_) (fun cdv A outer s H vs Q E hr h => ?_)
  · obtain ⟨_, _, _, rfl, _⟩ := h
    rfl
  · obtain ⟨a, kind, xs, rfl, hk, hf, hA, q⟩ := h
    refine ⟨_, pss_cons (ps_setLc (i := 1) (own := [("value", 2)]) (g := gName 2) (tt := tYes) rfl scStrR.nd rfl rfl (sw_true rfl rfl rfl (by decide +kernel)) (pi_tup (pe_fld (pv 0) rfl)) (blkOk_by (N := ["self", "words", "value"]) (sc := defScope sStrR) (by decide +kernel))
          (fun _ _ _ _ _ => pg_name (i := 2) scStrR.nd rfl (Or.inl rfl)) (fun _ _ _ _ _ => pts_nil)
          (fun _ _ _ _ _ => pe_call GW hr (by rfl) gW FW.kp bW .nil pass0 (pa_cons (pv 2) pa_nil)))
      (pss_one (ps_ret (pe_join pe_str (pe_lst (pa_cons (pe_fld (pv 0) rfl) (pa_star (pv 1) pa_nil)))))), ?_⟩
    obtain ⟨dx, fs, ha, t1, ⟨tp, t2, t3⟩, _⟩ := id hA
    have cl := (T.c kind hk).cl
    have n0 := (T.c kind hk).no "_told" (by simp)
    have n1 := (T.c kind hk).no "kind" (by simp)
    have hfl := hf.flat
    have hl4 : xs.length ≤ 4 := by rw [hf.1]; exact forms_len kind hk
    have hsz := sizeLine_eq
    refine ⟨_, rfl, a, _, dx, _, _, rfl, ha, cl, n0, t2, tp, rfl, ⟨_, SqT.of t3⟩, fun D hD => ?_⟩
    refine lc_it walk_tup (fun k H' => Same H H' ∧ H' D = some (.lst ((xs.take k).map fun v => .str (wordV v)))) ⟨Same.over (Same.refl H) hD, upd_same⟩ (fun _ _ _ y => SqT.of (y.1 _ _ t3)) ?_ ?_
    · rintro k x H2 H3 hk2 ⟨s2, hDk⟩ ⟨rfl, hxk⟩
      have et : xs.take (k + 1) = xs.take k ++ [x] := by rw [List.take_add_one, hxk]; rfl
      refine ⟨rfl, _, rfl, x, rfl, hfl x (List.mem_of_getElem? hxk), _, hDk, ?_, Same.over s2 hD, ?_⟩
      · rw [List.length_map]
        have h2 : (xs.take k).length ≤ xs.length := List.length_take_le' _ _
        omega
      · rw [et, List.map_append]
        exact upd_same
    · rintro H2 ⟨s2, hDk⟩
      rw [List.take_length] at hDk
      have ha2 := s2 _ _ ha
      refine ⟨⟨_, rfl⟩, _, rfl, a, _, dx, _, _, rfl, ha2, cl, n1, t1, _, rfl, D, _, rfl, .inr (SqL.of hDk), ?_, fun p hp => ?_⟩
      · rw [List.append_nil, List.length_cons, List.length_map]
        omega
      · refine ⟨_, p, kind :: xs.map wordV, rfl, rfl, .inl (SqL.of ?_), ?_, q _ (s2.trans (same_upd0 hp))⟩
        · rw [upd_same, List.append_nil, List.map_cons, List.map_map]
          rfl
        · have := words_sum hfl
          have hk8 := kind_len kind hk
          have e3 : ((" " : Str)).length = 1 := by decide
          rw [List.map_cons, List.sum_cons, List.length_cons, List.length_map, e3]
          omega
/-- Row.__eq__ of two like rows -/
def spEqR (Cf : Str → Addr) : Sp := fun vs H Q _ => ∃ (a b : Addr) (kind : Str) (xs : List V), vs = [.ref a, .ref b] ∧ kind ∈ kinds ∧ FlatRow kind xs ∧ RowAt Cf H a kind xs ∧ RowAt Cf H b kind xs ∧ Q (.bl true) H
theorem ok_eqR {Cf : Str → Addr} {CR f : Addr} {fd : FuncData} (F : Fun K "__eq__" "Row.__eq__" sEqR f fd) (W : Words K mg) (T : RowsC K mg Cf CR) : FnOk P w K mg base CX0 1 f fd ["self", "other"] (spEqR Cf) := by
  refine F.ok scEqR (fun vs H Q E h => ?_) (fun cdv A outer s H vs Q E hr h => ?_)
  · obtain ⟨_, _, _, _, rfl, _⟩ := h
    rfl
  · obtain ⟨a, b, kind, xs, rfl, hk, hf, ⟨dx, fs, ha, tA⟩, ⟨dx', fs', hb, tB⟩, q⟩ := h
    have cl := (T.c kind hk).cl
    have n0 := (T.c kind hk).no "_told" (by simp)
    have n1 := (T.c kind hk).no "kind" (by simp)
    obtain ⟨k1, ⟨p1, e1, t1⟩, _⟩ := tA
    obtain ⟨k2, ⟨p2, e2, t2⟩, _⟩ := tB
    obtain ⟨d, sh, ev, hd⟩ := flat_tup hf.flat
    refine ⟨_, pss_one (ps_ret (pe_and (pe_callB call_isi (by rfl) W.isi (by decide +kernel) (pa_cons (pv 1) (pa_cons (pe_glob (v := .ref CR) rfl T.gR rfl) pa_nil))) (pe_and (pe_cmpR op_eq (pe_fld (pv 0) rfl) (pe_fld (pv 1) rfl) (nomark _)) (pe_one (pe_cmpR (op_eqD hr.units) (pe_fld (pv 0) rfl) (pe_fld (pv 1) rfl) (nomark _)))))), ?_⟩
    refine ⟨_, rfl, _, _, _, _, true, rfl, .own CR, .base (.ins hb cl (T.ha kind hk) T.hn T.htk (T.hm kind hk)), T.kR kind hk, true, rfl, iteT ?_⟩
    refine ⟨_, rfl, a, _, dx, _, _, rfl, ha, cl, n1, k1, _, rfl, b, _, dx', _, _, rfl, hb, cl, n1, k2, rfl, true, by simp, iteT ?_⟩
    refine ⟨_, rfl, a, _, dx, _, _, rfl, ha, cl, n0, e1, _, rfl, b, _, dx', _, _, rfl, hb, cl, n0, e2, d, d, hd _ _ _ t1, hd _ _ _ t2, sh, sh, ?_⟩
    rw [ev]
    exact q
end
end K14

namespace K14
open PySem PySem.Spec PyProof.Rows L2 So LamX StX
abbrev sLsh : Stmt := inClass (topS 29) 7
abbrev sRen : Stmt := inClass (topS 29) 8
theorem scLsh : FnScope ["self", "ticks", "moved", "value", "form"] ["self", "ticks"] (defScope sLsh) := ⟨rfl, rfl, rfl, by decide +kernel, rfl, by decide +kernel, by decide +kernel⟩
theorem scRen : FnScope ["self", "names", "told", "value", "form"] ["self", "names"] (defScope sRen) := ⟨rfl, rfl, rfl, by decide +kernel, rfl, by decide +kernel, by decide +kernel⟩
def isMom (f : Str) : Bool := (["moment", "beginning"] : List Str).contains f
def addV (n : Int) : V → V
  | .int i => .int (i + n)
  | v => v
/-- a row's arguments, moved -/
def mv1 (n : Int) (p : V × Str) : V := if isMom p.2 = true then addV n p.1 else p.1
def mvL (n : Int) (l : List (V × Str)) : List V := l.map (mv1 n)
def getK (kvs : List (Key × V)) : V → V
  | .str z => (valV kvs (.inr z)).getD (.str z)
  | v => v
/-- renamed -/
def rn1 (kvs : List (Key × V)) (p : V × Str) : V := if p.2 = "name" then getK kvs p.1 else p.1
def rnL (kvs : List (Key × V)) (l : List (V × Str)) : List V := l.map (rn1 kvs)
theorem FlatRow.at {kind : Str} {xs : List V} (h : FlatRow kind xs) {u : V} {fm : Str} (hz : (u, fm) ∈ xs.zip (formsOf kind)) : okF fm u = true ∧ Flat1 u := h.2 _ hz
theorem mom_int {fm : Str} {u : V} (h : isMom fm = true) (o : okF fm u = true) : ∃ i, u = .int i := by
  unfold isMom at h
  rw [List.contains_iff_mem] at h
  simp only [List.mem_cons, List.not_mem_nil, or_false] at h
  rcases h with rfl | rfl
  · rw [okF_m] at o
    cases u with
    | int i => exact ⟨i, rfl⟩
    | _ => cases o
  · rw [okF_b] at o
    cases u with
    | int i => exact ⟨i, rfl⟩
    | _ => cases o
theorem nam_str {u : V} (o : okF "name" u = true) : ∃ z, u = .str z ∧ isName z = true := by
  rw [okF_n] at o
  cases u with
  | str z => exact ⟨z, rfl, o⟩
  | _ => cases o
theorem len_map2 {α β γ : Type} {f : α × β → γ} {xs : List α} {ys : List β} (h : xs.length = ys.length) : ((xs.zip ys).map f).length = ys.length := by
  rw [List.length_map, List.length_zip, h, Nat.min_self]
theorem Flat1.gv {v : V} (h : Flat1 v) (H : Hp) : ∃ T, Gv H v T := by
  cases h with
  | nam h => exact ⟨_, .str _ (Nat.le_trans (name_len h) (by decide))⟩
  | mom h => exact ⟨_, .int _⟩
  | tru b => exact ⟨_, .bl b⟩
section
variable {P : Program} {w : World} {K : PySem.W.Frag} {mg : Str → Option Value} {base : Heap}
theorem inK {X : Cx} {K : PySem.W.Frag} (h : X.K = K) : OpR X (compareOp .In) (rIn K false) := h ▸ op_in_seq
theorem WaysL.same {CN CM CS : Addr} {l : List (V × Str)} {H H' : Hp} {E : XK} {q q' : Prop} (h : WaysL CN CM CS l H E q) (s : Same H H') (i : q → q') : WaysL CN CM CS l H' E q' := ⟨fun e => i (h.1 e), fun C fl v e d H2 s2 => h.2 C fl v e d H2 (s.trans s2)⟩
/-- row << ticks -/
def spLsh (CN CM CS : Addr) (Cf : Str → Addr) : Sp := fun vs H Q E => ∃ (a : Addr) (n : Int) (kind : Str) (xs : List V), vs = [.ref a, .int n] ∧ kind ∈ kinds ∧ FlatRow kind xs ∧ RowAt Cf H a kind xs ∧
  WaysL CN CM CS ((mvL n (xs.zip (formsOf kind))).zip (formsOf kind)) H E (∀ (H' : Hp) (b : Addr), Same H H' → RowAt Cf H' b kind (mvL n (xs.zip (formsOf kind))) → Q (.ref b) H')
theorem ok_lsh {CN CM CS CR f fR aF : Addr} {Cf : Str → Addr} {fd fdR : FuncData} (F : Fun K "__lshift__" "Row.__lshift__" sLsh f fd) (T : RowsC K mg Cf CR) (TF : Forms K w mg aF) (FR : Fun K "made_row" "made_row" sMadeRow fR fdR) (bR : Binds K fdR ["kind", "told"] []) (gR : mg "made_row" = some (.ref fR)) (GR : FnOk P w K mg base (L2.CX P w) 8 fR fdR ["kind", "told"] (spMadeRow K CN CM CS Cf)) :
    FnOk P w K mg base (L2.CX P w) 9 f fd ["self", "ticks"] (spLsh CN CM CS Cf) := by
  refine F.okX scLsh (fun vs H Q E h => ?_) (fun cdv A outer s H vs Q E hr h => ?_)
  · obtain ⟨_, _, _, _, rfl, _⟩ := h
    rfl
  · obtain ⟨a, n, kind, xs, rfl, hk, hf, hA, hw⟩ := h
    obtain ⟨fa, hd, hft⟩ := TF.tab kind hk
    refine ⟨_, pss_cons (ps_setLc (i := 2) (own := [("value", 3), ("form", 4)]) (g := gTup K 2 (gCons (gName 3) (gCons (gName 4) gNil))) (tt := tYes) rfl scLsh.nd rfl rfl (sw_true rfl rfl rfl (by decide +kernel)) (RZ.pi_zipA (by rfl) TF.zip (pa_cons (pe_fld (pv 0) rfl) (pa_cons (pe_ix ix_kdict (pe_glob (v := .ref aF) rfl TF.mgF rfl) (pe_fld (pv 0) rfl) (fun _ _ => rfl)) pa_nil))) (blkOk_by (N := ["self", "ticks", "moved", "value", "form"]) (sc := defScope sLsh) (by decide +kernel))
          (fun _ _ _ _ _ => pg_tup rfl (pgs_cons (pg_name (i := 3) scLsh.nd rfl (Or.inl rfl)) (pgs_cons (pg_name (i := 4) scLsh.nd rfl (Or.inl rfl)) pgs_nil))) (fun _ _ _ _ _ => pts_nil)
          (fun _ _ _ _ _ => pe_ifExp (pt_cmpR (inK (K := K) rfl) (pv 4) (pe_tup (pa_cons pe_str (pa_cons pe_str pa_nil))) (by rfl)) (pe_op op_add (pv 3) (pv 1)) (pv 3)))
      (pss_one (ps_ret (pe_call GR hr (by rfl) gR FR.kp bR .nil (passes_call (takes_of rfl rfl rfl rfl) (fun _ _ _ _ h => h)) (pa_cons (pe_fld (pv 0) rfl) (pa_cons (pv 2) pa_nil))))), ?_⟩
    obtain ⟨dx, flds, ha, tk, ⟨tp, tt, htp⟩, _⟩ := id hA
    have cl := (T.c kind hk).cl
    have n0 := (T.c kind hk).no "_told" (by simp)
    have n1 := (T.c kind hk).no "kind" (by simp)
    have hl := hf.1
    have hl4 : xs.length ≤ 4 := by rw [hl]; exact forms_len kind hk
    have hz2 : ∀ {u : V} {fm : Str}, (u, fm) ∈ xs.zip (formsOf kind) → okF fm u = true ∧ Flat1 u := fun h => hf.at h
    have hsz := sizeLine_eq
    refine ⟨_, rfl, a, _, dx, _, _, rfl, ha, cl, n0, tt, ?_⟩
    generalize hfo : formsOf kind = fo at hl hft hw hz2
    refine ⟨_, rfl, a, _, dx, _, _, rfl, ha, cl, n1, tk, aF, kind, .ref fa, rfl, rfl, hd, tp, fa, xs, fo.map V.str, rfl, .inr ⟨SqT.of htp, hft _, fun D hD => ?_⟩⟩
    refine lc_it (walk_zipT rfl) (fun i H' => Same H H' ∧ H' D = some (.lst ((xs.zip fo).take i |>.map (mv1 n)))) ⟨Same.over (Same.refl H) hD, upd_same⟩ (fun _ _ _ y => ⟨SqT.of (y.1 _ _ htp), hft _⟩) ?_ ?_
    · rintro i x H2 H3 hi ⟨s2, hDi⟩ ⟨T0, u, y, rfl, hT0, rfl, hu, hy⟩
      have s3 := s2.trans (same_upd0 (o := .tup [u, y]) hT0)
      have hD3 := (same_upd0 (o := .tup [u, y]) hT0) _ _ hDi
      replace hy : (fo.map V.str)[i]? = some y := hy
      rw [List.getElem?_map] at hy
      obtain ⟨fm, hfm, rfl⟩ : ∃ fm, fo[i]? = some fm ∧ y = .str fm := by
        cases e : fo[i]? with
        | none => rw [e] at hy; cases hy
        | some m => rw [e] at hy; exact ⟨m, rfl, (Option.some.inj hy).symm⟩
      replace hu : xs[i]? = some u := hu
      have hz : (xs.zip fo)[i]? = some (u, fm) := by
        rw [List.getElem?_zip_eq_some]
        exact ⟨hu, hfm⟩
      obtain ⟨okf, flt⟩ := hz2 (List.mem_of_getElem? hz)
      have et : (xs.zip fo).take (i + 1) = (xs.zip fo).take i ++ [(u, fm)] := by rw [List.take_add_one, hz]; rfl
      rw [et, List.map_append]
      refine ⟨T0, _, rfl, SqT.of upd_same, rfl, _, _, rfl, _, _, rfl, rfl, rfl, ?_⟩
      refine ⟨_, rfl, by show 2 ≤ sizeLine; decide, fun tm htm => ⟨tm, _, rfl, .inr (SqT.of upd_same), rfl, flat_strs ["moment", "beginning"], ?_⟩⟩
      rw [show (if false = true then !inV (V.str fm) [V.str "moment", V.str "beginning"] else inV (V.str fm) [V.str "moment", V.str "beginning"]) = isMom fm from inV_strs fm ["moment", "beginning"]]
      have s4 := same_upd0 (o := .tup [V.str "moment", V.str "beginning"]) htm
      have hD4 := s4 _ _ hD3
      have hlt : (((xs.zip fo).take i).map (mv1 n)).length < sizeLine := by
        rw [List.length_map]
        have h2 : ((xs.zip fo).take i).length ≤ (xs.zip fo).length := List.length_take_le' _ _
        have h3 : (xs.zip fo).length ≤ xs.length := by rw [List.length_zip]; omega
        omega
      refine ⟨_, rfl, ite2 (fun c => ?_) (fun c => ?_)⟩
      · obtain ⟨j, rfl⟩ := mom_int c okf
        refine ⟨_, rfl, _, rfl, _, _, rfl, rfl, _, hD4, hlt, Same.over (s3.trans s4) hD, ?_⟩
        rw [show List.map (mv1 n) [(V.int j, fm)] = [V.int (j + n)] from by simp [mv1, c, addV]]
        exact upd_same
      · refine ⟨_, rfl, _, hD4, hlt, Same.over (s3.trans s4) hD, ?_⟩
        rw [show List.map (mv1 n) [(u, fm)] = [u] from by simp [mv1, c]]
        exact upd_same
    · rintro H2 ⟨s2, hDi⟩
      rw [List.take_of_length_le (by rw [List.length_zip, List.length_map]; exact Nat.le_refl _)] at hDi
      refine ⟨_, rfl, a, _, dx, _, _, rfl, s2 _ _ ha, cl, n1, tk, _, rfl, D, kind, mvL n (xs.zip fo), rfl, hDi, hk, by rw [hfo]; exact len_map2 hl, fun y hy => ?_, ?_⟩
      · obtain ⟨⟨u, fm⟩, hm, rfl⟩ := List.mem_map.mp hy
        obtain ⟨okf, flt⟩ := hz2 hm
        unfold mv1
        by_cases c : isMom fm = true
        · obtain ⟨j, rfl⟩ := mom_int c okf
          simp only [c, if_true]
          exact ⟨_, .int _⟩
        · simp only [c, if_false]
          exact flt.gv _
      · rw [hfo]
        exact hw.same s2 fun q H' b s e => q H' b (s2.trans s) e
/-- row.renamed(names) -/
def spRen (CN CM CS : Addr) (Cf : Str → Addr) : Sp := fun vs H Q E => ∃ (a d : Addr) (kvs : List (Key × V)) (kind : Str) (xs : List V), vs = [.ref a, .ref d] ∧ H d = some (.dK kvs) ∧ (∀ z v, valV kvs (.inr z) = some v → ∃ T, Gv H v T) ∧ kind ∈ kinds ∧ FlatRow kind xs ∧ RowAt Cf H a kind xs ∧
  WaysL CN CM CS ((rnL kvs (xs.zip (formsOf kind))).zip (formsOf kind)) H E (∀ (H' : Hp) (b : Addr), Same H H' → RowAt Cf H' b kind (rnL kvs (xs.zip (formsOf kind))) → Q (.ref b) H')
theorem ok_ren {CN CM CS CR f fR aF : Addr} {Cf : Str → Addr} {fd fdR : FuncData} (F : Fun K "renamed" "Row.renamed" sRen f fd) (T : RowsC K mg Cf CR) (TF : Forms K w mg aF) (FR : Fun K "made_row" "made_row" sMadeRow fR fdR) (bR : Binds K fdR ["kind", "told"] []) (gR : mg "made_row" = some (.ref fR)) (GR : FnOk P w K mg base (L2.CX P w) 8 fR fdR ["kind", "told"] (spMadeRow K CN CM CS Cf)) :
    FnOk P w K mg base (L2.CX P w) 9 f fd ["self", "names"] (spRen CN CM CS Cf) := by
  refine F.okX scRen (fun vs H Q E h => ?_) (fun cdv A outer s H vs Q E hr h => ?_)
  · obtain ⟨_, _, _, _, _, rfl, _⟩ := h
    rfl
  · obtain ⟨a, d, kvs, kind, xs, rfl, hdk, hgv, hk, hf, hA, hw⟩ := h
    obtain ⟨fa, hd, hft⟩ := TF.tab kind hk
    refine ⟨_, pss_cons (ps_setLc (i := 2) (own := [("value", 3), ("form", 4)]) (g := gTup K 2 (gCons (gName 3) (gCons (gName 4) gNil))) (tt := tYes) rfl scRen.nd rfl rfl (sw_true rfl rfl rfl (by decide +kernel)) (RZ.pi_zipA (by rfl) TF.zip (pa_cons (pe_fld (pv 0) rfl) (pa_cons (pe_ix ix_kdict (pe_glob (v := .ref aF) rfl TF.mgF rfl) (pe_fld (pv 0) rfl) (fun _ _ => rfl)) pa_nil))) (blkOk_by (N := ["self", "names", "told", "value", "form"]) (sc := defScope sRen) (by decide +kernel))
          (fun _ _ _ _ _ => pg_tup rfl (pgs_cons (pg_name (i := 3) scRen.nd rfl (Or.inl rfl)) (pgs_cons (pg_name (i := 4) scRen.nd rfl (Or.inl rfl)) pgs_nil))) (fun _ _ _ _ _ => pts_nil)
          (fun _ _ _ _ _ => pe_ifExp (pt_cmpR op_eq (pv 4) pe_str (nomark _)) (pe_dget2 (hu_of hr) (pv 1) (pv 3) (pv 3) ⟨rfl, rfl, rfl, rfl⟩) (pv 3)))
      (pss_one (ps_ret (pe_call GR hr (by rfl) gR FR.kp bR .nil (passes_call (takes_of rfl rfl rfl rfl) (fun _ _ _ _ h => h)) (pa_cons (pe_fld (pv 0) rfl) (pa_cons (pv 2) pa_nil))))), ?_⟩
    obtain ⟨dx, flds, ha, tk, ⟨tp, tt, htp⟩, _⟩ := id hA
    have cl := (T.c kind hk).cl
    have n0 := (T.c kind hk).no "_told" (by simp)
    have n1 := (T.c kind hk).no "kind" (by simp)
    have hl := hf.1
    have hl4 : xs.length ≤ 4 := by rw [hl]; exact forms_len kind hk
    have hz2 : ∀ {u : V} {fm : Str}, (u, fm) ∈ xs.zip (formsOf kind) → okF fm u = true ∧ Flat1 u := fun h => hf.at h
    have hsz := sizeLine_eq
    refine ⟨_, rfl, a, _, dx, _, _, rfl, ha, cl, n0, tt, ?_⟩
    generalize hfo : formsOf kind = fo at hl hft hw hz2
    refine ⟨_, rfl, a, _, dx, _, _, rfl, ha, cl, n1, tk, aF, kind, .ref fa, rfl, rfl, hd, tp, fa, xs, fo.map V.str, rfl, .inr ⟨SqT.of htp, hft _, fun D hD => ?_⟩⟩
    refine lc_it (walk_zipT rfl) (fun i H' => Same H H' ∧ H' D = some (.lst ((xs.zip fo).take i |>.map (rn1 kvs)))) ⟨Same.over (Same.refl H) hD, upd_same⟩ (fun _ _ _ y => ⟨SqT.of (y.1 _ _ htp), hft _⟩) ?_ ?_
    · rintro i x H2 H3 hi ⟨s2, hDi⟩ ⟨T0, u, y, rfl, hT0, rfl, hu, hy⟩
      have s3 := s2.trans (same_upd0 (o := .tup [u, y]) hT0)
      have hD3 := (same_upd0 (o := .tup [u, y]) hT0) _ _ hDi
      replace hy : (fo.map V.str)[i]? = some y := hy
      rw [List.getElem?_map] at hy
      obtain ⟨fm, hfm, rfl⟩ : ∃ fm, fo[i]? = some fm ∧ y = .str fm := by
        cases e : fo[i]? with
        | none => rw [e] at hy; cases hy
        | some m => rw [e] at hy; exact ⟨m, rfl, (Option.some.inj hy).symm⟩
      replace hu : xs[i]? = some u := hu
      have hz : (xs.zip fo)[i]? = some (u, fm) := by
        rw [List.getElem?_zip_eq_some]
        exact ⟨hu, hfm⟩
      obtain ⟨okf, flt⟩ := hz2 (List.mem_of_getElem? hz)
      have et : (xs.zip fo).take (i + 1) = (xs.zip fo).take i ++ [(u, fm)] := by rw [List.take_add_one, hz]; rfl
      rw [et, List.map_append]
      refine ⟨T0, _, rfl, SqT.of upd_same, rfl, _, _, rfl, _, _, rfl, rfl, rfl, ?_⟩
      have hlt : (((xs.zip fo).take i).map (rn1 kvs)).length < sizeLine := by
        rw [List.length_map]
        have h2 : ((xs.zip fo).take i).length ≤ (xs.zip fo).length := List.length_take_le' _ _
        have h3 : (xs.zip fo).length ≤ xs.length := by rw [List.length_zip]; omega
        omega
      refine ⟨_, rfl, rfl, _, rfl, ite2 (fun c => ?_) (fun c => ?_)⟩
      · obtain rfl : fm = "name" := V.str.inj (of_decide_eq_true c)
        obtain ⟨z, rfl, hzn⟩ := nam_str okf
        have hd3 := s3 _ _ hdk
        refine ⟨_, rfl, d, rfl, .inl ⟨_, .inl hd3⟩, _, rfl, _, rfl, _, .inl ⟨_, .inr z, .inl hd3, rfl, rfl⟩, _, hD3, hlt, Same.over s3 hD, ?_⟩
        rw [show List.map (rn1 kvs) [(V.str z, ("name" : Str))] = [(valV kvs (.inr z)).getD (.str z)] from by simp [rn1, getK]]
        exact upd_same
      · have c' : ¬ fm = "name" := fun e => c (decide_eq_true (by rw [e]))
        refine ⟨_, rfl, _, hD3, hlt, Same.over s3 hD, ?_⟩
        rw [show List.map (rn1 kvs) [(u, fm)] = [u] from by simp [rn1, c']]
        exact upd_same
    · rintro H2 ⟨s2, hDi⟩
      rw [List.take_of_length_le (by rw [List.length_zip, List.length_map]; exact Nat.le_refl _)] at hDi
      refine ⟨_, rfl, a, _, dx, _, _, rfl, s2 _ _ ha, cl, n1, tk, _, rfl, D, kind, rnL kvs (xs.zip fo), rfl, hDi, hk, by rw [hfo]; exact len_map2 hl, fun y hy => ?_, ?_⟩
      · obtain ⟨⟨u, fm⟩, hm, rfl⟩ := List.mem_map.mp hy
        obtain ⟨okf, flt⟩ := hz2 hm
        unfold rn1
        by_cases c : fm = "name"
        · subst c
          obtain ⟨z, rfl, hzn⟩ := nam_str okf
          simp only [if_true, getK]
          cases e : valV kvs (.inr z) with
          | none => exact flt.gv _
          | some v => exact (hgv z v e).elim fun T g => ⟨T, g.same s2⟩
        · simp only [c, if_false]
          exact flt.gv _
      · rw [hfo]
        exact hw.same s2 fun q H' b s e => q H' b (s2.trans s) e
end
end K14

namespace K14
open PySem PySem.Spec PyProof.Rows L2 So LamX
abbrev sNamed : Stmt := topS 55
abbrev sTicks : Stmt := topS 56
theorem scNamed : FnScope ["_law_row", "_law_part"] ["_law_row"] (defScope sNamed) := ⟨rfl, rfl, rfl, by decide +kernel, rfl, by decide +kernel, by decide +kernel⟩
theorem scTicks : FnScope ["_law_row", "_law_part"] ["_law_row"] (defScope sTicks) := ⟨rfl, rfl, rfl, by decide +kernel, rfl, by decide +kernel, by decide +kernel⟩
def isS : V → Bool
  | .str _ => true
  | _ => false
def isI : V → Bool
  | .int _ => true
  | _ => false
section
variable {P : Program} {w : World} {K : PySem.W.Frag} {mg : Str → Option Value} {base : Heap}
theorem isiK {X : Cx} {K : PySem.W.Frag} (h : X.K = K) : CallR X (.builtin "isinstance") (rIsi K) := h ▸ call_isi
theorem cut1 (v : V) (xs : List V) : cutV (v :: xs) (some 1) none = xs := by
  have e : HT.sIx (v :: xs).length 0 (some 1) = 1 := by
    have := HT.sIx_nat (v :: xs).length 0 1
    rw [show ((1 : Nat) : Int) = 1 from rfl] at this
    rw [this, List.length_cons]
    omega
  unfold cutV
  rw [e, HT.sIx_none]
  show List.take ((v :: xs).length - 1) xs = xs
  rw [List.length_cons]
  exact List.take_length
theorem cut1_not (v : V) (xs : List V) : ¬ (HT.sIx (v :: xs).length 0 (some 1) = 0 ∧ HT.sIx (v :: xs).length (v :: xs).length none = (v :: xs).length) := by
  have := HT.sIx_nat (v :: xs).length 0 1
  rw [show ((1 : Nat) : Int) = 1 from rfl] at this
  rw [this, List.length_cons]
  rintro ⟨h, _⟩
  omega
def spNamed (g : V → Bool) : Sp := fun vs H Q _ => ∃ (r : Addr) (kind : Str) (xs : List V), vs = [.ref r] ∧ H r = some (.tup (.str kind :: xs)) ∧ xs.length ≤ 8 ∧ (∀ y ∈ xs, Flat1 y) ∧ ∀ (H' : Hp) (l : Addr), Same H H' → H l = none → H' l = some (.lst (xs.filter g)) → Q (.ref l) H'
theorem ok_named {f : Addr} {fd : FuncData} (F : Fun K "_law_named" "_law_named" sNamed f fd) (mi : mg "isinstance" = none) (ms : mg "str" = none) : FnOk P w K mg base CX0 1 f fd ["_law_row"] (spNamed isS) := by
  refine F.ok scNamed (fun vs H Q E h => ?_) (fun cdv A outer s H vs Q E hr h => ?_)
  · obtain ⟨_, _, _, rfl, _⟩ := h
    rfl
  · obtain ⟨r, kind, xs, rfl, hx, hl, hf, q⟩ := h
    refine ⟨_, pss_one (ps_ret (pe_lc (own := [("_law_part", 1)]) (g := gName 1) rfl scNamed.nd (pi_tup (pe_slice sl_tup (pv 0) (po_some pe_int) po_none)) (blkOk_by (N := ["_law_row", "_law_part"]) (sc := defScope sNamed) (by decide +kernel))
          (fun _ _ _ _ _ => pg_name (i := 1) scNamed.nd rfl (Or.inl rfl)) (fun _ _ _ _ _ => pts_one (pt_val (pe_callB (isiK (K := K) rfl) (by rfl) mi (by decide +kernel) (pa_cons (pv 1) (pa_cons (pe_bltn (v := .ty "str") (by rfl) ms (by decide +kernel) rfl) pa_nil)))))
          (fun _ _ _ _ _ => pv 1))), ?_⟩
    refine ⟨_, rfl, _, rfl, r, V.str kind :: xs, rfl, SqT.of hx, cut1_not _ _, fun tp htp => ?_⟩
    rw [cut1]
    have s1 := same_upd0 (o := .tup xs) htp
    have ht : (upd H tp (.tup xs)) tp = some (.tup xs) := upd_same
    revert s1 ht
    generalize upd H tp (.tup xs) = H1
    intro s1 ht
    refine ⟨tp, rfl, ⟨_, SqT.of ht⟩, fun D hD => ?_⟩
    have hlen : ∀ k, ((xs.take k).filter isS).length < sizeLine := fun k => by
      have h1 := List.length_filter_le isS (xs.take k)
      have h2 : (xs.take k).length ≤ xs.length := List.length_take_le' _ _
      have := sizeLine_eq
      omega
    refine lc_it walk_tup (fun k H' => Same H1 H' ∧ H' D = some (.lst ((xs.take k).filter isS))) ⟨Same.over (Same.refl H1) hD, upd_same⟩ (fun _ _ _ y => SqT.of (y.1 _ _ ht)) ?_ ?_
    · rintro k x H2 H3 hk ⟨s2, hDk⟩ ⟨rfl, hxk⟩
      have et : xs.take (k + 1) = xs.take k ++ [x] := by rw [List.take_add_one, hxk]; rfl
      rw [et, List.filter_append]
      have hfx := hf x (List.mem_of_getElem? hxk)
      cases hfx with
      | @nam z hz =>
        refine ⟨rfl, _, rfl, _, _, _, _, true, rfl, .ty "str", (Gv.str z (Nat.le_trans (name_len hz) (by decide))).ty, kit_str_str, _, rfl, iteT ⟨_, rfl, _, hDk, hlen k, Same.over s2 hD, ?_⟩⟩
        exact upd_same
      | @mom i hi =>
        refine ⟨rfl, _, rfl, _, _, _, _, false, rfl, .ty "str", (Gv.int i).ty, kit_ty (by decide +kernel), _, rfl, iteF ⟨s2, ?_⟩⟩
        rw [hDk]
        simp [isS]
      | @tru b =>
        refine ⟨rfl, _, rfl, _, _, _, _, false, rfl, .ty "str", (Gv.bl b).ty, kit_ty (by decide +kernel), _, rfl, iteF ⟨s2, ?_⟩⟩
        rw [hDk]
        simp [isS]
    · rintro H2 ⟨s2, hDk⟩
      rw [List.take_length] at hDk
      exact q _ _ (s1.trans s2) (s1.free hD) hDk
end
end K14

namespace So
open PySem PySem.Spec PyProof.Rows L2
section
variable {P : Program} {w : World} {K : PySem.W.Frag} {mg : Str → Option Value} {base : Heap} {CX : CXT} {sp : Sp} {fd : FuncData} {ps N : List Str} {k : Nat} {f c : Addr}
/-- a def by its body, the guards and the code object told -/
theorem fnG_ofC {x qual : Str} {st : Stmt} (F : Fun K x qual st f fd) (hcode : fd.code = .ref c) (S : FnScope N ps (defScope st)) (len : ∀ vs H Q E, sp vs H Q E → vs.length = ps.length)
    (hbody : ∀ (A : Around) (outer : List Env) (s : Shared) (H : Hp) (vs : List V) (Q : VK) (E : XK), A.guards = some [] → Room k (A.deeper (envOfC qual (defScope st) s.heap.objs.size f (.ref c))) → sp vs H Q E →
      ∃ t, PSs (cxOf CX P w K mg base N qual (defScope st) f (.ref c) A outer s H E).nox (defBody st) t ∧ t { nx := fun _ H' => Q .non H', rt := Q } (start N vs) H) : FnG P w K mg base CX (k + 1) f fd ps sp := by
  obtain ⟨oc, od, kV, doc, pm, an, cdv, ct, osl, rfl, lk, hcd⟩ := F.ex
  obtain rfl : cdv = .ref c := hcode
  constructor
  · exact len
  intro A outer s H args us vs Q E hg hr e0 hb r hsp
  have old : ∀ b o, base.get? b = some o → s.heap.get? b = some o := fun b o e => (e0.bs b o e).1
  have KX := e0.mod.kin.keeps old
  have lim := e0.mod.nolimit.keeps old
  refine codeAny_call_function hr.depth (KX _ _ lk) rfl S.co S.gen rfl (PySem.W.codeRec_of KX hcd) (hb _ _ _ _ ?_)
  refine wpAny_newFunctionEnv_cells S.kind (fun y hy => ?_) fun env he s1 x => ?_
  · rcases S.par y.1 (List.of_mem_zip (show (y.1, y.2) ∈ ps.zip us from hy)).1 with q | q
    · exact Or.inl q
    · exact Or.inr (And.intro q (PySem.W.cellsFrom_some _ _ _ (Or.inl q)))
  subst he
  refine And.intro (lim.keeps x.toInCall.keep) (codeAny_func ?_)
  obtain ⟨t, ht, hq⟩ := hbody A outer s H vs Q E hg (hr.deeper _) hsp
  refine wpAny_mono (ht.nox.run [] s1 (start N vs) H _ (inv_start S hr.hd e0 (len _ _ _ _ hsp) r x) hq) (fun fl s' hs => ?_) fun _ _ hs => hs
  match fl, hs with
  | .ret u, ⟨v, σ', H', J, rv, q⟩ => exact ⟨v, H', J.os, J.bare, J.base, J.hok, rv, q⟩
  | .next, ⟨σ', H', J, q⟩ => exact ⟨V.non, H', J.os, J.bare, J.base, J.hok, rfl, q⟩
  | .brk, ⟨_, _, _, q⟩ => exact q.elim
  | .cont, ⟨_, _, _, q⟩ => exact q.elim
end
end So

namespace So
open PySem PySem.Spec PyProof.Rows L2 LamX
/-- the law's call, its one table of code objects and the guards told -/
theorem law_callTG {P : Program} {w : World} {K : PySem.W.Frag} {mg mb : Str → Option Value} {CX : CXT} {k : Nat} {fa a c T : Addr} {fd : FuncData} {x : Str} {sp : Sp} {s₁ : Shared} {vs : List Value} {ns : List Int}
    (KX : K.In s₁.heap) (hns : s₁.heap.Ns mainGlobals mg) (hb : s₁.heap.Ns builtinsNs mb) (hbb : ∀ x : Str, x ≠ "__name__" → mb x = bootBuiltins x) (hlim : s₁.heap.NoLimit) (hg : s₁.gens = #[])
    (tab : s₁.heap.get? T = some { cls := .none, data := .fields #[] }) (noT : K.lookup T = none) (cd : PySem.W.CodeHd s₁.heap c T)
    (mod : ∃ (bm : Addr) (ob : Obj), mg "__builtins__" = some (.ref bm) ∧ bm ≠ builtinsNs ∧ s₁.heap.get? bm = some ob ∧ ob.cls = .type "module" ∧ ob.dict = some builtinsNs ∧ ob.data = .plain)
    (ha : s₁.heap.get? a = some { cls := .type "list", data := .seq vs.toArray }) (hi : IntsAre vs ns) (hl : ns.length ≤ sizeLine) (hr : Room k callerA)
    (F : ∀ base : Heap, K.In base → base.Ns mainGlobals mg → TabB base mg c T → FnG P w K mg base CX k fa fd [x] sp) (hbind : ∀ (s : Shared) (u : Value), BindsTo s fd ⟨[u], []⟩ [(x, u)])
    (hsp : ∀ H : Hp, H T = some (.tbl #[]) → SqL K H a (ns.map V.int) → sp [.ref a] H (fun v _ => v = .bl true) fun _ _ _ => False)
    (hCX : ∀ H e s', CX [] H s₁ (fun _ _ _ => False) e s' → False) :
    codeAny (model P w) callerA (.call (.ref fa) ⟨[.ref a], []⟩) (fun r s' => r = .ok (.ret (.bool true)) ∧ OldK s₁.heap s'.heap ∧ s'.os = s₁.os ∧ AllBare s'.gens) s₁ := by
  have aT : a ≠ T := fun z => by
    rw [z, tab] at ha
    have := congrArg Obj.data (Option.some.inj ha)
    cases this
  -- what may be tracked at the start: the table, and the script where the written part does not hold it
  have go : ∀ H : Hp, H T = some (.tbl #[]) → (∀ b u, H b = some u → b = T ∨ (b = a ∧ K.lookup a = none ∧ ∃ o xs, u = .frz o (.lst xs))) → SqL K H a (ns.map V.int) → HOk P w H s₁.heap →
      codeAny (model P w) callerA (.call (.ref fa) ⟨[.ref a], []⟩) (fun r s' => r = .ok (.ret (.bool true)) ∧ OldK s₁.heap s'.heap ∧ s'.os = s₁.os ∧ AllBare s'.gens) s₁ := by
    intro H hT hA hS hok
    -- an object that is neither the script's list nor the table stands in the base
    have free : ∀ {b : Addr} {o : Obj}, s₁.heap.get? b = some o → (∀ vs n, o.data ≠ .seq vs n) → o.data ≠ .fields #[] → H b = none := by
      intro b o e h1 h2
      cases q : H b with
      | none => rfl
      | some u =>
        rcases hA b u q with rfl | ⟨rfl, _⟩
        · rw [tab] at e
          cases e
          exact absurd rfl h2
        · rw [ha] at e
          cases e
          exact absurd rfl (h1 _ _)
    have toBase : ∀ {b : Addr} {o : Obj}, s₁.heap.get? b = some o → H b = none → (hidT s₁.heap H).get? b = some o := fun e n => hidT_get e n
    have nsB : ∀ {b : Addr} {m : Str → Option Value}, s₁.heap.Ns b m → (hidT s₁.heap H).Ns b m := by
      rintro b m ⟨o, es, ep, e, d, r⟩
      have n : H b = none := by
        refine free e ?_ ?_
        · intro vs n z
          rw [d] at z
          cases z
        · intro z
          rw [d] at z
          cases z
      exact ⟨o, es, ep, toBase e n, d, r⟩
    have kin : K.In (hidT s₁.heap H) := by
      intro b o e
      refine toBase (KX b o e) ?_
      cases q : H b with
      | none => rfl
      | some u =>
        rcases hA b u q with rfl | ⟨rfl, z, _⟩
        · rw [noT] at e
          cases e
        · rw [z] at e
          cases e
    have lim2 : (hidT s₁.heap H).NoLimit := by
      obtain ⟨mc, h1, h2⟩ := hlim
      exact ⟨mc, nsB h1, h2⟩
    have gT : mainGlobals ≠ T := fun z => by
      obtain ⟨o, es, ep, e, d, _⟩ := hns
      rw [z, tab] at e
      cases e
      cases d
    have cd2 : PySem.W.CodeHd (hidT s₁.heap H) c T := by
      obtain ⟨o, us, fl, tf, fg, tg, inF, tx, tt, e1, r1, r2, r3, r⟩ := cd
      refine ⟨o, us, fl, tf, fg, tg, inF, tx, tt, toBase e1 (free e1 ?_ ?_), r1, r2, r3, r⟩
      · intro vs n z
        rw [r2] at z
        cases z
      · intro z
        rw [r2] at z
        cases z
        simp at r3
    have bm2 : (hidT s₁.heap H).BuiltinsAt mg T := by
      obtain ⟨bm, ob, b1, b2, b3, b4, b5, b6⟩ := mod
      have n1 : bm ≠ mainGlobals := fun z => by
        obtain ⟨o, es, ep, e, d, _⟩ := hns
        rw [z, e] at b3
        cases b3
        rw [d] at b6
        cases b6
      have n2 : bm ≠ T := fun z => by
        rw [z, tab] at b3
        cases b3
        cases b6
      refine ⟨bm, ob, b1, b2, n1, n2, toBase b3 (free b3 ?_ ?_), b4, b5, b6⟩
      · intro vs n z
        rw [b6] at z
        cases z
      · intro z
        rw [b6] at z
        cases z
    have e0 : Env0 P w K mg (hidT s₁.heap H) callerA [] s₁ H := by
      refine ⟨rfl, ⟨kin, nsB hns, ⟨mb, nsB hb, hbb⟩, lim2⟩, fun b o e => of_hidT e, Nat.le_of_eq (hidT_size _ _), True.intro, ?_, hok, .of_eq hg⟩
      intro b hb
      cases hb
    refine codeAny_mono ((F _ kin (nsB hns) ⟨cd2, bm2, gT⟩).runG callerA [] s₁ H ⟨[.ref a], []⟩ [.ref a] [.ref a] _ _ rfl hr e0 (hbind s₁ (.ref a)) (.cons rfl .nil) (hsp H hT hS)) fun r s' h => ?_
    match r, h with
    | .error e, h => exact (hCX H e s' h).elim
    | .ok .next, h => exact h.elim
    | .ok .brk, h => exact h.elim
    | .ok .cont, h => exact h.elim
    | .ok (.ret u), ⟨v, H', os, bare, un, hok', rv, q⟩ =>
      have q2 : v = .bl true := q
      subst q2
      cases rv
      obtain ⟨more, hm⟩ := un.tbls T #[] hT
      have grown : s'.heap.get? T = some { cls := .none, data := .fields (#[] ++ more) } := hok' T _ hm
      have stay : ∀ b o, b ≠ T → s₁.heap.get? b = some o → s'.heap.get? b = some o := by
        intro b o n e
        cases q : H b with
        | none => exact un.keep b o e q (fun z => nomatch z) (fun z => nomatch z)
        | some u =>
          rcases hA b u q with z | ⟨_, _, ob, xs, rfl⟩
          · exact absurd z n
          · have z1 := (hok b _ q).1
            have z2 := (hok' b _ (un.frzs b ob _ q)).1
            rw [z1] at e
            rw [z2, e]
      refine ⟨rfl, ⟨fun b o e => ?_, fun b o e => ?_⟩, os, bare⟩
      · by_cases n : b = T
        · subst n
          rw [tab] at e
          cases e
          refine .inr (.inl ⟨(cd.tab tab).isCodeTable, rfl, #[], more, rfl, grown⟩)
        · exact .inl (stay b o n e)
      · by_cases n : b = T
        · subst n
          exact ⟨_, grown⟩
        · exact ⟨o, stay b o n e⟩
  have rv := vals_ints hi
  have hlen : (ns.map V.int).length ≤ sizeLine := by rw [List.length_map]; exact hl
  cases hk : K.lookup a with
  | some o =>
    have e := KX a o hk
    rw [ha] at e
    cases e
    refine go (fun b => if b = T then some (.tbl #[]) else none) (if_pos rfl) (fun b u z => ?_) (Or.inr ⟨_, vs.toArray, _, hk, rfl, rfl, rfl, by rw [List.size_toArray, hi.length]; exact hl, by simpa using rv⟩) fun b u z => ?_
    · try dsimp only at z
      by_cases n : b = T
      · exact Or.inl n
      · rw [if_neg n] at z
        cases z
    · try dsimp only at z
      by_cases n : b = T
      · rw [if_pos n] at z
        cases z
        rw [n]
        exact tab
      · rw [if_neg n] at z
        cases z
  | none =>
    refine go (fun b => if b = T then some (.tbl #[]) else if b = a then some (.frz { cls := .type "list", data := .seq vs.toArray } (.lst (ns.map V.int))) else none) (if_pos rfl) (fun b u z => ?_) (Or.inl (Or.inr ⟨_, (if_neg aT).trans (if_pos rfl)⟩)) fun b u z => ?_
    · try dsimp only at z
      by_cases n : b = T
      · exact Or.inl n
      · rw [if_neg n] at z
        by_cases n2 : b = a
        · rw [if_pos n2] at z
          cases z
          exact Or.inr ⟨n2, hk, _, _, rfl⟩
        · rw [if_neg n2] at z
          cases z
    · try dsimp only at z
      by_cases n : b = T
      · rw [if_pos n] at z
        cases z
        rw [n]
        exact tab
      · rw [if_neg n] at z
        by_cases n2 : b = a
        · rw [if_pos n2] at z
          cases z
          rw [n2]
          exact ⟨ha, hlen, vs, _, rv, ha⟩
        · rw [if_neg n2] at z
          cases z
end So

namespace K14
open PySem PySem.Spec PyProof.Rows L2 So LamX
abbrev sHeard : Stmt := topS 59
abbrev heardN : List Str := ["_law_ask", "_law_caught", "error", "_law_heard_here"]
theorem scHeard : FnScope heardN ["_law_ask"] (defScope sHeard) := ⟨rfl, rfl, rfl, by decide +kernel, rfl, by decide +kernel, by decide +kernel⟩
theorem pe_imp {X : Cx} {e : Expr} {t : TE} (h : PE X e t) : PE X e (fun σ H Q => ∃ Q0 : VK, t σ H Q0 ∧ ∀ v H', Q0 v H' → Q v H') :=
  ⟨fun pins s σ H Q I ⟨Q0, h1, h2⟩ => thn (h.run pins s σ H Q0 I h1) fun u s' ⟨v, H', I', r, q⟩ => ⟨v, H', I', r, h2 v H' q⟩⟩
theorem takes_len {X : Cx} {W : WX} (tk : Takes X W) : Takes X (fun c d σ H => σ.length = X.N.length → W c d σ H) := fun u s' ⟨a, B, sI, pins, σ, H, cls, d, e, I, nb, up, sky, na, os, ag, w⟩ =>
  tk u s' ⟨a, B, sI, pins, σ, H, cls, d, e, I, nb, up, sky, na, os, ag, w I.len⟩
/-- the errors by the law's words -/
def KindL (CN CM CS : Addr) (wd : Str) (C : Addr) (fl : Str) : Prop := (wd = "name" ∧ C = CN ∧ fl = "name") ∨ (wd = "moment" ∧ C = CM ∧ fl = "moment") ∨ (wd = "tool" ∧ C = CS ∧ fl = "tool")
def EchL (CN CM CS : Addr) (Q : VK) : XK := fun cls d H' => ∃ (wd : Str) (C : Addr) (fl : Str) (v : V) (dd : Addr), KindL CN CM CS wd C fl ∧ cls = .ref C ∧ d = some dd ∧ H' dd = some (.xd [(fl, v)]) ∧ ∀ (H'' : Hp) (r : Addr), Same H' H'' → H'' r = some (.tup [.str wd, v]) → Q (.ref r) H''
def QtL (Q : VK) : VK := fun v H' => ∀ t, H' t = none → Q (.ref t) (upd H' t (.tup [.str "told", v]))
def TTL (CN CM CS : Addr) : (XK → Hp → VK → Prop) → Hp → VK → Prop := fun tl H Q => tl (EchL CN CM CS Q) H (QtL Q)
/-- what the top says of the errors, to the law's heard -/
structure HrL (K : PySem.W.Frag) (mg : Str → Option Value) (CT CN CM CS : Addr) : Prop where
  gT : mg "TillError" = some (.ref CT)
  gN : mg "BadName" = some (.ref CN)
  gM : mg "BadMoment" = some (.ref CM)
  gS : mg "NoTool" = some (.ref CS)
  gV : mg "ValueError" = none
  isi : mg "isinstance" = none
  len : mg "len" = none
  te : ∀ C ∈ [CN, CM, CS], PySem.W.exmOne K (.ref C) (.ref CT) = some true ∧ PySem.W.kitOne K (.ref C) (.type "ValueError") = some true ∧ Err K C
  no : ∀ C ∈ [CN, CM, CS], PySem.W.kitOne K (.type "NoneType") (.ref C) = some false
  nn : PySem.W.kitOne K (.ref CN) (.ref CN) = some true
  nm : PySem.W.kitOne K (.ref CN) (.ref CM) = some false
  ns : PySem.W.kitOne K (.ref CN) (.ref CS) = some false
  mn : PySem.W.kitOne K (.ref CM) (.ref CN) = some false
  mm : PySem.W.kitOne K (.ref CM) (.ref CM) = some true
  ms : PySem.W.kitOne K (.ref CM) (.ref CS) = some false
  sn : PySem.W.kitOne K (.ref CS) (.ref CN) = some false
  sm : PySem.W.kitOne K (.ref CS) (.ref CM) = some false
  ss : PySem.W.kitOne K (.ref CS) (.ref CS) = some true
  fN : PySem.W.findIn K (.ref CN) "name" = some none
  fM : PySem.W.findIn K (.ref CM) "moment" = some none
  fS : PySem.W.findIn K (.ref CS) "tool" = some none
section
variable {X : Cx}
theorem heard_gives {q : Str} {g CT CN CM CS : Addr} {cdg : Value} (R : HrL X.K X.mg CT CN CM CS) : GivesTo X heardN "_law_heard" (defScope sHeard) g cdg (defBody sHeard) "_law_ask" q (TTL CN CM CS) := by
  intro f c' s H Q tl act hc h
  have TM := (R.te CM (by simp)).2.2
  have TN := (R.te CN (by simp)).2.2
  have TS := (R.te CS (by simp)).2.2
  refine ⟨_, (pss_cons (ps_set (i := 1) scHeard.nd rfl (.inl rfl) pe_non)
      (pss_cons (ps_try_keep (X := (cxOf C8.CX0 X.prog X.w X.K X.mg X.base heardN "_law_heard" (defScope sHeard) g cdg X.A X.stack s H C8.E0).nox) (i := 2) (n := "error") (c := .ref CT)
        (tb := fun W D σ H => ∃ Ech : XK, (∀ cls d σ' H', Ech cls d H' → σ'.length = 4 → W cls d σ' H') ∧ σ[0]? = some (some (.ref f)) ∧ H c' = some (CodeO c' q) ∧ ∃ Q0 : VK, tl Ech H Q0 ∧ ∀ v H', Q0 v H' → ∀ t, H' t = none → D.rt (.ref t) (upd H' t (.tup [.str "told", v])))
        rfl rfl rfl scHeard.nd rfl rfl ⟨rfl, by decide, .inl R.gT⟩ LamX.takes0 (fun W pn xe tk _ => ?_) (fun a pn => pss_one (ps_set (i := 1) scHeard.nd rfl (.inl rfl) (pv 2))))
      (pss_cons (ps_set (i := 3) scHeard.nd rfl (.inl rfl) (pe_lst pa_nil))
      (pss_cons (ps_if (pt_val (pe_callB (So.CallR.or call_isi call_isXo) (by rfl) R.isi (by decide +kernel) (pa_cons (pv 1) (pa_cons (pe_glob (v := .ref CN) rfl R.gN rfl) pa_nil)))) (pss_one (ps_expr (pe_bm PySem.F.plainAttrs_list PySem.F.slot_list_append PySem.F.type_list_append mt_append (pv 3) (pa_cons (pe_tup (pa_cons pe_str (pa_cons (pe_xo TN R.fN (pv 1)) pa_nil))) pa_nil)))) pss_nil)
      (pss_cons (ps_if (pt_val (pe_callB (So.CallR.or call_isi call_isXo) (by rfl) R.isi (by decide +kernel) (pa_cons (pv 1) (pa_cons (pe_glob (v := .ref CM) rfl R.gM rfl) pa_nil)))) (pss_one (ps_expr (pe_bm PySem.F.plainAttrs_list PySem.F.slot_list_append PySem.F.type_list_append mt_append (pv 3) (pa_cons (pe_tup (pa_cons pe_str (pa_cons (pe_xo TM R.fM (pv 1)) pa_nil))) pa_nil)))) pss_nil)
      (pss_cons (ps_if (pt_val (pe_callB (So.CallR.or call_isi call_isXo) (by rfl) R.isi (by decide +kernel) (pa_cons (pv 1) (pa_cons (pe_glob (v := .ref CS) rfl R.gS rfl) pa_nil)))) (pss_one (ps_expr (pe_bm PySem.F.plainAttrs_list PySem.F.slot_list_append PySem.F.type_list_append mt_append (pv 3) (pa_cons (pe_tup (pa_cons pe_str (pa_cons (pe_xo TS R.fS (pv 1)) pa_nil))) pa_nil)))) pss_nil)
      (pss_one (ps_ret (pe_ifExp (PW.pt (pw_and (pt_cmpR op_eq (pe_callB call_len_seq (by rfl) R.len PySem.boot_len (pa_cons (pv 3) pa_nil)) pe_int (nomark _))
        (pw_and1 (pt_val (pe_callB call_isXo (by rfl) R.isi (by decide +kernel) (pa_cons (pv 1) (pa_cons (pe_bltn (v := .ty "ValueError") (by rfl) R.gV (by decide +kernel) rfl) pa_nil)))))))
      (pe_ix ix_list (pv 3) pe_int (fun _ _ => rfl)) pe_str))))))))), ?_⟩
  · refine ⟨fun pins s' σ H' D I h' => ?_⟩
    obtain ⟨Ech, hW, h1, h2, Q0, h3, h4⟩ := h'
    refine (pss_one (ps_ret (pe_tup (pa_cons pe_str (pa_cons (pe_imp (act (fun c d σ H => σ.length = 4 → W c d σ H) pn xe Ech _ _ (takes_len tk) hW)) pa_nil))))).run pins s' σ H' D I ?_
    exact ⟨Q0, ⟨h1, h2, h3⟩, fun v H'' z => ⟨by show 2 ≤ sizeLine; decide, fun t ht => h4 v H'' z t ht⟩⟩
  · refine ⟨EchL CN CM CS Q, fun cls d σ' H' ⟨wd, C, fl, v, dd, k3, e1, e2, e3, q3⟩ hl => ?_, rfl, hc, QtL Q, h, fun v H' z t ht => z t ht⟩
    obtain ⟨x0, x1, x2, x3, rfl⟩ : ∃ x0 x1 x2 x3, σ' = [x0, x1, x2, x3] := by
      match σ', hl with
      | [x0, x1, x2, x3], _ => exact ⟨x0, x1, x2, x3, rfl⟩
    subst e1 e2
    have hC : C ∈ [CN, CM, CS] := by
      rcases k3 with ⟨_, rfl, _⟩ | ⟨_, rfl, _⟩ | ⟨_, rfl, _⟩ <;> simp
    obtain ⟨tE, tV, tEr⟩ := R.te C hC
    refine ⟨true, tE, fun _ a ha => ?_, fun y => nomatch y⟩
    refine ⟨_, rfl, by show 0 ≤ sizeLine; decide, fun p hp => ?_⟩
    have s0 : Same H' (upd H' a (Xo (.ref C) (some dd) a)) := same_upd0 ha
    have s1 := s0.trans (same_upd0 (o := .lst []) hp)
    have HA : (upd (upd H' a (Xo (.ref C) (some dd) a)) p (.lst [])) a = some (Xo (.ref C) (some dd) a) := same_upd0 hp _ _ upd_same
    have HD : (upd (upd H' a (Xo (.ref C) (some dd) a)) p (.lst [])) dd = some (.xd [(fl, v)]) := s1 _ _ e3
    have HP : (upd (upd H' a (Xo (.ref C) (some dd) a)) p (.lst [])) p = some (.lst []) := upd_same
    have hpn : H' p = none := s0.free hp
    revert s1 HA HD HP
    generalize upd (upd H' a (Xo (.ref C) (some dd) a)) p (.lst []) = H1
    intro s1 HA HD HP
    rcases k3 with ⟨rfl, rfl, rfl⟩ | ⟨rfl, rfl, rfl⟩ | ⟨rfl, rfl, rfl⟩
    · refine ⟨_, rfl, .inr ⟨a, _, dd, _, _, _, true, rfl, HA, HD, tEr, .own _, R.nn, _, rfl, iteT ?_⟩⟩
      refine ⟨_, rfl, .inl ⟨rfl, _, SqL.of HP⟩, _, rfl, a, dd, _, v, rfl, HA, HD, by simp [List.lookup], by show 2 ≤ sizeLine; decide, fun r hr => ?_⟩
      have s2 := same_upd0 (o := .tup [.str "name", v]) hr
      refine ⟨p, _, _, rfl, rfl, s2 _ _ HP, by show 0 < sizeLine; decide, ?_⟩
      have nrp : r ≠ p := fun y => by rw [y, HP] at hr; cases hr
      have nap : a ≠ p := fun y => by rw [y, HP] at HA; cases HA
      have ndp : dd ≠ p := ne_of HD HP (fun y => nomatch y)
      have HA3 := (upd_ne (o := HO.lst [.ref r]) nap).trans (s2 _ _ HA)
      have HD3 := (upd_ne (o := HO.lst [.ref r]) ndp).trans (s2 _ _ HD)
      refine ⟨_, rfl, .inr ⟨a, _, dd, _, _, _, false, rfl, HA3, HD3, tEr, .own CM, R.nm, _, rfl, iteF ?_⟩⟩
      refine ⟨_, rfl, .inr ⟨a, _, dd, _, _, _, false, rfl, HA3, HD3, tEr, .own CS, R.ns, _, rfl, iteF ?_⟩⟩
      refine ⟨_, rfl, p, _, rfl, .inl (SqL.of upd_same), rfl, _, rfl, ite2 (fun _ => ?_) (fun y => absurd (decide_eq_true rfl) y)⟩
      refine ⟨_, rfl, a, _, dd, _, _, _, true, rfl, HA3, HD3, tEr, .ty "ValueError", tV, _, rfl, iteT ?_⟩
      refine ⟨_, rfl, p, _, 0, _, rfl, rfl, SqL.of upd_same, atI_nat (j := 0) rfl, q3 _ r (fun b o y => ?_) ((upd_ne nrp).trans upd_same)⟩
      exact (upd_ne (ne_of_none y hpn)).trans (s2 _ _ (s1 _ _ y))
    · refine ⟨_, rfl, .inr ⟨a, _, dd, _, _, _, false, rfl, HA, HD, tEr, .own CN, R.mn, _, rfl, iteF ?_⟩⟩
      refine ⟨_, rfl, .inr ⟨a, _, dd, _, _, _, true, rfl, HA, HD, tEr, .own _, R.mm, _, rfl, iteT ?_⟩⟩
      refine ⟨_, rfl, .inl ⟨rfl, _, SqL.of HP⟩, _, rfl, a, dd, _, v, rfl, HA, HD, by simp [List.lookup], by show 2 ≤ sizeLine; decide, fun r hr => ?_⟩
      have s2 := same_upd0 (o := .tup [.str "moment", v]) hr
      refine ⟨p, _, _, rfl, rfl, s2 _ _ HP, by show 0 < sizeLine; decide, ?_⟩
      have nrp : r ≠ p := fun y => by rw [y, HP] at hr; cases hr
      have nap : a ≠ p := fun y => by rw [y, HP] at HA; cases HA
      have ndp : dd ≠ p := ne_of HD HP (fun y => nomatch y)
      have HA3 := (upd_ne (o := HO.lst [.ref r]) nap).trans (s2 _ _ HA)
      have HD3 := (upd_ne (o := HO.lst [.ref r]) ndp).trans (s2 _ _ HD)
      refine ⟨_, rfl, .inr ⟨a, _, dd, _, _, _, false, rfl, HA3, HD3, tEr, .own CS, R.ms, _, rfl, iteF ?_⟩⟩
      refine ⟨_, rfl, p, _, rfl, .inl (SqL.of upd_same), rfl, _, rfl, ite2 (fun _ => ?_) (fun y => absurd (decide_eq_true rfl) y)⟩
      refine ⟨_, rfl, a, _, dd, _, _, _, true, rfl, HA3, HD3, tEr, .ty "ValueError", tV, _, rfl, iteT ?_⟩
      refine ⟨_, rfl, p, _, 0, _, rfl, rfl, SqL.of upd_same, atI_nat (j := 0) rfl, q3 _ r (fun b o y => ?_) ((upd_ne nrp).trans upd_same)⟩
      exact (upd_ne (ne_of_none y hpn)).trans (s2 _ _ (s1 _ _ y))
    · refine ⟨_, rfl, .inr ⟨a, _, dd, _, _, _, false, rfl, HA, HD, tEr, .own CN, R.sn, _, rfl, iteF ?_⟩⟩
      refine ⟨_, rfl, .inr ⟨a, _, dd, _, _, _, false, rfl, HA, HD, tEr, .own CM, R.sm, _, rfl, iteF ?_⟩⟩
      refine ⟨_, rfl, .inr ⟨a, _, dd, _, _, _, true, rfl, HA, HD, tEr, .own _, R.ss, _, rfl, iteT ?_⟩⟩
      refine ⟨_, rfl, .inl ⟨rfl, _, SqL.of HP⟩, _, rfl, a, dd, _, v, rfl, HA, HD, by simp [List.lookup], by show 2 ≤ sizeLine; decide, fun r hr => ?_⟩
      have s2 := same_upd0 (o := .tup [.str "tool", v]) hr
      refine ⟨p, _, _, rfl, rfl, s2 _ _ HP, by show 0 < sizeLine; decide, ?_⟩
      have nrp : r ≠ p := fun y => by rw [y, HP] at hr; cases hr
      have nap : a ≠ p := fun y => by rw [y, HP] at HA; cases HA
      have ndp : dd ≠ p := ne_of HD HP (fun y => nomatch y)
      have HA3 := (upd_ne (o := HO.lst [.ref r]) nap).trans (s2 _ _ HA)
      have HD3 := (upd_ne (o := HO.lst [.ref r]) ndp).trans (s2 _ _ HD)
      refine ⟨_, rfl, p, _, rfl, .inl (SqL.of upd_same), rfl, _, rfl, ite2 (fun _ => ?_) (fun y => absurd (decide_eq_true rfl) y)⟩
      refine ⟨_, rfl, a, _, dd, _, _, _, true, rfl, HA3, HD3, tEr, .ty "ValueError", tV, _, rfl, iteT ?_⟩
      refine ⟨_, rfl, p, _, 0, _, rfl, rfl, SqL.of upd_same, atI_nat (j := 0) rfl, q3 _ r (fun b o y => ?_) ((upd_ne nrp).trans upd_same)⟩
      exact (upd_ne (ne_of_none y hpn)).trans (s2 _ _ (s1 _ _ y))
end
end K14

/-! a list of anything == [], != [] -/
namespace So
open PySem PySem.Spec PyProof.Rows L2
section
variable {X : Cx}
theorem isL {hp : Heap} {a : Addr} {its : Array Value} (h : PlainL hp a its) : hp.IsList a its := by
  obtain ⟨o, n, e, c, d, dt⟩ := h
  exact ⟨o, e, c, n, dt⟩
def rNil (K : PySem.W.Frag) (neg : Bool) : R2 := fun x y H Q => ∃ (a b : Addr) (xs : List V), x = .ref a ∧ y = .ref b ∧ SqL K H a xs ∧ SqL K H b [] ∧ Q (.bl (if neg then !xs.isEmpty else xs.isEmpty)) H
theorem op_neNil (hu : X.A.units < cLine) : OpR X (compareOp .NotEq) (rNil X.K true) := by
  intro pins s σ H x y v u Q I rx ry h
  obtain ⟨a, b, xs, rfl, rfl, ha, hb, q⟩ := h
  cases rx
  cases ry
  obtain ⟨its, rv, hl, hz⟩ := I.list ha
  obtain ⟨its2, rv2, hl2, hz2⟩ := I.list hb
  cases rv2
  cases xs with
  | nil =>
    cases rv
    exact PySem.SeqAt.RcNeAt.lists (e := fun _ => true) (isL hl) (isL hl2) rfl hu (fun j h1 _ => absurd h1 (Nat.not_lt_zero j)) X.prog X.w _ _ ⟨.bl false, H, I, rfl, q⟩
  | cons x r =>
    cases rv with
    | cons r1 r2 => exact PySem.SeqAt.RcNeAt.lists_lengths (isL hl) (isL hl2) (by simp) hu X.prog X.w _ _ ⟨.bl true, H, I, rfl, q⟩
theorem op_eqNil (hu : X.A.units < cLine) : OpR X (compareOp .Eq) (rNil X.K false) := by
  intro pins s σ H x y v u Q I rx ry h
  obtain ⟨a, b, xs, rfl, rfl, ha, hb, q⟩ := h
  cases rx
  cases ry
  obtain ⟨its, rv, hl, hz⟩ := I.list ha
  obtain ⟨its2, rv2, hl2, hz2⟩ := I.list hb
  cases rv2
  cases xs with
  | nil =>
    cases rv
    exact PySem.SeqAt.RcAt.lists (e := fun _ => true) (isL hl) (isL hl2) rfl hu (fun j h1 _ => absurd h1 (Nat.not_lt_zero j)) X.prog X.w _ _ ⟨.bl true, H, I, rfl, q⟩
  | cons x r =>
    cases rv with
    | cons r1 r2 => exact PySem.SeqAt.RcAt.lists_lengths (isL hl) (isL hl2) (by simp) hu X.prog X.w _ _ ⟨.bl false, H, I, rfl, q⟩
end
end So

/-! a part of an expression walked by itself: what follows it is said once -/
namespace So
open PySem PySem.Spec PyProof.Rows L2
theorem pe_cut {X : Cx} {e : Expr} {t : TE} (h : PE X e t) : PE X e (fun σ H Q => ∃ Q0 : VK, t σ H Q0 ∧ ∀ v H', Q0 v H' → Q v H') :=
  ⟨fun pins s σ H Q I ⟨Q0, h1, h2⟩ => thn (h.run pins s σ H Q0 I h1) fun u s' ⟨v, H', I', r, q⟩ => ⟨v, H', I', r, h2 v H' q⟩⟩
end So

/-! rules within a comprehension's block, the written part told -/
namespace So
open PySem PySem.Spec PyProof.Rows L2
section
variable {X : Cx} {K : PySem.W.Frag} {tg l e : Expr} {tl ta : TE} {f : Str} {pos : Pos}
theorem pi_tupK (h : X.K = K) (hl : PE X l tl) : PI X tg l (iTup K tl) := by
  subst h
  exact pi_tup hl
theorem pi_listK (h : X.K = K) (hl : PE X l tl) : PI X tg l (iList K tl) := by
  subst h
  exact pi_list hl
theorem pe_fldK (h : X.K = K) (he : PE X e ta) (hb : attributeBase e f X.env (eval e X.env) = eval e X.env) : PE X (.Attribute e f pos) (tFld K ta f) := by
  subst h
  exact pe_fld he hb
theorem ix_listK (h : X.K = K) : IxR X (rIxL K) := h ▸ ix_list
theorem ix_tupK (h : X.K = K) : IxR X (rIxT K) := h ▸ ix_tup
theorem op_inK (h : X.K = K) : OpR X (compareOp .In) (rIn K false) := by
  subst h
  exact op_in_seq
theorem op_notInK (h : X.K = K) : OpR X (compareOp .NotIn) (rIn K true) := by
  subst h
  exact op_notIn_seq
theorem lenK (h : X.K = K) : CallR X (.builtin "len") (fun xs H Q => ∃ (p : Addr) (ys : List V), xs = [V.ref p] ∧ (SqL K H p ys ∨ SqT K H p ys) ∧ Q (.int (ys.length : Nat)) H) := by
  subst h
  exact call_len_seq
end
end So

namespace K14
open PySem PySem.Spec PyProof.Rows L2 So LamX StX
/-! ### from data -/
theorem Gv.extN {H H' : Hp} {v : V} {T : String} (h : Gv H v T) (s : ExtN H H') : Gv H' v T := by
  cases h with
  | non => exact .non
  | bl b => exact .bl b
  | int i => exact .int i
  | str z h => exact .str z h
  | lst e => exact .lst (s _ _ e (fun _ z => nomatch z))
  | tup e => exact .tup (s _ _ e (fun _ z => nomatch z))
  | dK e => exact .dK (s _ _ e (fun _ z => nomatch z))
theorem Dp.dd {K : PySem.W.Frag} {H : Hp} {v : V} {d : PyData} (h : flatD v = some d) : Dd K H v d := by
  cases v with
  | non => cases h; exact .non
  | bl b => cases h; exact .bl b
  | int i => cases h; exact .int i
  | str z => cases h; exact .str z
  | _ => cases h
theorem flatDs_dd {K : PySem.W.Frag} {H : Hp} : ∀ {xs : List V} {ds : List PyData}, flatDs xs = some ds → DdAll K H xs ds
  | [], ds, h => by
    cases h
    exact .nil
  | v :: r, ds, h => by
    unfold flatDs at h
    split at h
    · rename_i d es h1 h2
      cases h
      exact .cons (Dp.dd h1) (flatDs_dd h2)
    · cases h
theorem okD_ok {d : PyData} (o : okD d) : OkD 3000 12 d := ⟨o.1, Nat.le_trans o.2.1 (by decide), Nat.le_trans o.2.2 (by decide)⟩
/-! ### values that show so, whatever becomes of some places -/
noncomputable def holeS (S : Addr → Prop) (H : Hp) : Hp := fun b => open Classical in if S b then none else H b
theorem holeS_ne {S : Addr → Prop} {H : Hp} {b : Addr} (h : ¬ S b) : holeS S H b = H b := if_neg h
theorem holeS_at {S : Addr → Prop} {H : Hp} {b : Addr} (h : S b) : holeS S H b = none := if_pos h
theorem holeS_same {S : Addr → Prop} {H : Hp} : Same (holeS S H) H := fun b o e => by
  unfold holeS at e
  split at e
  · cases e
  · exact e
def VS (S : Addr → Prop) (K : PySem.W.Frag) (H : Hp) (v : V) (d : PyData) : Prop := ∃ F : Hp, (∀ b, S b → F b = none) ∧ Same F H ∧ Dd K F v d ∧ (∃ T, Gv F v T) ∧ OkD 3000 12 d
section
variable {S : Addr → Prop} {K : PySem.W.Frag} {H H' : Hp} {v : V} {d : PyData}
theorem VS.same (h : VS S K H v d) (s : Same H H') : VS S K H' v d := h.elim fun F e => ⟨F, e.1, e.2.1.trans s, e.2.2⟩
theorem VS.off (h : VS S K H v d) (s : ∀ b o, ¬ S b → H b = some o → H' b = some o) : VS S K H' v d := h.elim fun F e => ⟨F, e.1, fun b o z => s b o (fun y => by rw [e.1 b y] at z; cases z) (e.2.1 _ _ z), e.2.2⟩
theorem VS.dd (h : VS S K H v d) : Dd K H v d := h.elim fun F e => Dd.same (fun b o z => e.2.1 b o z) e.2.2.1
theorem VS.gv (h : VS S K H v d) : ∃ T, Gv H v T := h.elim fun F e => e.2.2.2.1.elim fun T g => ⟨T, g.same e.2.1⟩
theorem VS.ok (h : VS S K H v d) : OkD 3000 12 d := h.elim fun F e => e.2.2.2.2
theorem VS.extN (h : VS S K H v d) (s : ExtN H H') : VS S K H' v d := h.elim fun F e => ⟨unt F, fun b y => unt_none (e.1 b y), fun b o z => (unt_ext s) b o (unt_mono e.2.1 b o z), dd_unt e.2.2.1, e.2.2.2.1.elim fun T g => ⟨T, g.extN fun b o z n => unt_get z n⟩, e.2.2.2.2⟩
theorem Od.vs (h : Od H v) (n : ∀ b, v = .ref b → ¬ S b) : ∃ d, VS S K H v d := by
  cases h with
  | @flat v d h o s =>
    refine ⟨d, holeS S H, fun b y => holeS_at y, holeS_same, Dp.dd h, ?_, okD_ok o⟩
    cases v with
    | non => exact ⟨_, .non⟩
    | bl b => exact ⟨_, .bl b⟩
    | int i => exact ⟨_, .int i⟩
    | str z => exact ⟨_, .str z (s z rfl)⟩
    | _ => cases h
  | @lst a xs ds e h o =>
    have e2 : holeS S H a = some (.lst xs) := by rw [holeS_ne (n a rfl)]; exact e
    exact ⟨_, holeS S H, fun b y => holeS_at y, holeS_same, .lst (SqL.of e2) (flatDs_dd h), ⟨_, .lst e2⟩, okD_ok o⟩
  | @tup a xs ds e h o =>
    have e2 : holeS S H a = some (.tup xs) := by rw [holeS_ne (n a rfl)]; exact e
    exact ⟨_, holeS S H, fun b y => holeS_at y, holeS_same, .tup (SqT.of e2) (flatDs_dd h), ⟨_, .tup e2⟩, okD_ok o⟩
  | @mt a e =>
    have e2 : holeS S H a = some (.dK []) := by rw [holeS_ne (n a rfl)]; exact e
    exact ⟨.dict [], holeS S H, fun b y => holeS_at y, holeS_same, .dct e2 .nil, ⟨_, .dK e2⟩, ⟨rfl, by decide +kernel, by decide +kernel⟩⟩
end
theorem sz_name {z : Str} (h : isName z = true) : (PyData.shown (.str z)).length ≤ 100 := by
  have h1 := PySem.StrLaws.reprText_len z (fun c hc => Nat.lt_trans (name_small h c hc) (by decide))
  have h2 := name_len h
  show (reprText z).length ≤ 100
  omega
theorem Od.mom {H : Hp} {m : Int} (h : 0 ≤ m ∧ m ≤ 1000000000000000000000000000000) : Od H (.int m) := by
  refine .flat rfl ⟨?_, Nat.zero_le _, ?_⟩ (fun _ z => nomatch z)
  · simp [PyData.showable, mom_log h]
  · show (Str.ofString (toString m)).length ≤ 1000
    rw [PyProof.Rows.ofString_length]
    have : m.natAbs.log2 < 101 := PySem.Flt.log2_lt_of (by decide) (by omega : m.natAbs < 2 ^ 101)
    exact Nat.le_trans (int_text_length_le (k := 101) (by decide) this) (by decide)
theorem Od.name {H : Hp} {z : Str} (h : isName z = true) : Od H (.str z) :=
  .flat rfl ⟨rfl, Nat.zero_le _, Nat.le_trans (sz_name h) (by decide)⟩ (fun y e => by cases e; exact Nat.le_trans (name_len h) (by decide))
theorem Flat1.od {H : Hp} {v : V} (h : Flat1 v) : Od H v := by
  cases h with
  | nam h => exact .name h
  | mom h => exact .mom h
  | tru b => exact .bl b
theorem Flat1.nr {v : V} (h : Flat1 v) : ∀ b, v ≠ .ref b := by
  cases h <;> exact fun _ z => nomatch z
end K14

namespace K14
open PySem PySem.Spec PyProof.Rows L2 So LamX StX TL
abbrev sCrew : Stmt := topS 50
abbrev sText : Stmt := topS 57
abbrev sMoved : Stmt := topS 60
abbrev sLIs : Stmt := topS 64
theorem scCrew : FnScope ["_law_pen_here", "_law_stem", "_law_sign"] ["_law_pen_here"] (defScope sCrew) := ⟨rfl, rfl, rfl, by decide +kernel, rfl, by decide +kernel, by decide +kernel⟩
theorem scText : FnScope ["_law_row", "_law_truths", "_law_part"] ["_law_row"] (defScope sText) := ⟨rfl, rfl, rfl, by decide +kernel, rfl, by decide +kernel, by decide +kernel⟩
theorem scMoved : FnScope ["_law_row", "_law_much", "_law_some", "_law_wrong", "_law_least", "_law_part"] ["_law_row", "_law_much"] (defScope sMoved) := ⟨rfl, rfl, rfl, by decide +kernel, rfl, by decide +kernel, by decide +kernel⟩
theorem scLIs : FnScope ["_law_word", "_law_letters", "_law_sign"] ["_law_word"] (defScope sLIs) := ⟨rfl, rfl, rfl, by decide +kernel, rfl, by decide +kernel, by decide +kernel⟩
/-! ### names of crews -/
def stems : List Str := ["", "", "g", "gauge0"]
def cutN (d : Int) : Str := cutS ("zab" : Str) none (some (1 + d))
theorem crew_ok : ∀ st ∈ stems, ∀ c ∈ ("zab" : Str).cps.toList, isName (st ++ ⟨#[c]⟩) = true ∧ (st ++ (⟨#[c]⟩ : Str)).length ≤ 8 ∧ st.length + 1 ≤ 100 := by decide +kernel
theorem cut_ok : (∀ d ∈ ([0, 1, 2] : List Int), 0 < (cutN d).length ∧ (cutN d).length ≤ 3 ∧ ∀ c ∈ (cutN d).cps.toList, c ∈ ("zab" : Str).cps.toList) := by decide +kernel
section
variable {P : Program} {w : World} {K : PySem.W.Frag} {mg : Str → Option Value} {base : Heap}
def spCrew : Sp := fun vs H Q _ => ∃ (p l : Addr) (ns : List Int) (n : Nat) (g : Int), vs = [.ref p] ∧ Pen H p l ns n g ∧ n < 999000 ∧
  ∀ (zs : List Str) (cr : Addr) (n' : Nat) (g' : Int) (H' : Hp), 0 < zs.length → zs.length ≤ 3 → (∀ z ∈ zs, isName z = true) → n' ≤ n + 2 → Off p H H' → Pen H' p l ns n' g' → H' cr = some (.lst (zs.map V.str)) → cr ≠ p → Q (.ref cr) H'
theorem ok_crew {f fP fD : Addr} {fd fdP fdD : FuncData} (F : Fun K "_law_crew" "_law_crew" sCrew f fd) (FP : Fun K "_law_pick" "_law_pick" sPick fP fdP) (bP : Binds K fdP ["_law_pen_here", "_law_some"] []) (gP : mg "_law_pick" = some (.ref fP)) (GP : FnOk P w K mg base CX0 2 fP fdP ["_law_pen_here", "_law_some"] (spPick K))
    (FD : Fun K "_law_draw" "_law_draw" sDraw fD fdD) (bD : Binds K fdD ["_law_pen_here", "_law_many"] []) (gD : mg "_law_draw" = some (.ref fD)) (GD : FnOk P w K mg base CX0 1 fD fdD ["_law_pen_here", "_law_many"] spDraw) : FnOk P w K mg base CX0 3 f fd ["_law_pen_here"] spCrew := by
  refine F.ok scCrew (fun vs H Q E h => ?_) (fun cdv A outer s H vs Q E hr h => ?_)
  · obtain ⟨_, _, _, _, _, rfl, _⟩ := h
    rfl
  · obtain ⟨p, l, ns, n, g, rfl, hp, hn, q⟩ := h
    have hr1 : Room 1 _ := hr.mono (by decide)
    refine ⟨_, pss_cons (ps_set (i := 1) scCrew.nd rfl (.inr rfl) (pe_call GP hr (by rfl) gP FP.kp bP .nil pass0 (pa_cons (pv 0) (pa_cons (pe_lst (pa_cons pe_str (pa_cons pe_str (pa_cons pe_str (pa_cons pe_str pa_nil))))) pa_nil))))
      (pss_one (ps_ret (pe_lc (own := [("_law_sign", 2)]) (g := gName 2) (tt := tYes) rfl scCrew.nd (pi_str (pe_slice sl_str pe_str po_none (po_some (pe_op op_add pe_int (pe_call GD hr1 (by rfl) gD FD.kp bD .nil pass0 (pa_cons (pv 0) (pa_cons pe_int pa_nil))))))) (blkOk_by (N := ["_law_pen_here", "_law_stem", "_law_sign"]) (sc := defScope sCrew) (by decide +kernel))
          (fun _ _ _ _ _ => pg_name (i := 2) scCrew.nd rfl (Or.inl rfl)) (fun _ _ _ _ _ => pts_nil)
          (fun _ _ _ _ _ => pe_op op_add_str (pv 1) (pv 2))))), ?_⟩
    refine ⟨_, rfl, by show 4 ≤ sizeLine; decide, fun s1 h1 => ?_⟩
    have nsp := hp.ne h1
    refine ⟨p, l, ns, n, g, _, rfl, hp.new h1, by omega, .inl ⟨s1, _, rfl, nsp, upd_same, by show 0 < 4; decide, by show 4 ≤ 1000; decide, fun v n1 g1 H1 hv hn1 off1 pen1 => ?_⟩⟩
    obtain ⟨st, hst, rfl⟩ : ∃ st ∈ stems, v = .str st := by
      have : v ∈ stems.map V.str := hv
      obtain ⟨z, hz, e⟩ := List.mem_map.mp this
      exact ⟨z, hz, e.symm⟩
    have offA : Off p H H1 := Off.trans (offS (same_upd0 h1)) off1
    refine ⟨_, rfl, p, l, ns, n1, g1, 3, rfl, pen1, by omega, by decide, by decide, fun d n2 g2 H2 d0 d1 hn2 off2 pen2 => ⟨_, _, rfl, rfl, _, rfl, _, rfl, by decide +kernel, ?_⟩⟩
    have hd : d ∈ ([0, 1, 2] : List Int) := by
      simp only [List.mem_cons, List.not_mem_nil, or_false]
      omega
    obtain ⟨c1, c2, c3⟩ := cut_ok d hd
    refine ⟨cutN d, rfl, fun D hD => ?_⟩
    generalize cutN d = zc at c1 c2 c3
    have lz : zc.cps.toList.length = zc.length := Array.length_toList
    have nDp : D ≠ p := fun z => by rw [z, pen2.pen] at hD; cases hD
    refine lc_it walk_str (fun i H' => Same H2 H' ∧ H' D = some (.lst (((zc.cps.toList.take i).map fun c => st ++ (⟨#[c]⟩ : Str)).map V.str))) ⟨Same.over (Same.refl H2) hD, upd_same⟩ (fun _ _ _ _ => trivial) ?_ ?_
    · rintro i x H3 H4 hi ⟨s3, hDi⟩ ⟨rfl, c, hc1, rfl⟩
      have hc2 : zc.cps.toList[i]? = some c := by
        rw [Array.getElem?_toList]
        exact hc1
      obtain ⟨_, k1, k2⟩ := crew_ok st hst c (c3 c (List.mem_of_getElem? hc2))
      refine ⟨rfl, _, rfl, _, rfl, _, _, rfl, rfl, ?_, _, hDi, ?_, Same.over s3 hD, ?_⟩
      · have := sizeLine_eq
        show st.length + 1 ≤ sizeLine
        omega
      · rw [List.length_map, List.length_map]
        have h2 : (zc.cps.toList.take i).length ≤ zc.cps.toList.length := List.length_take_le' _ _
        have := sizeLine_eq
        omega
      · rw [upd_same, List.take_add_one, hc2, List.map_append, List.map_append]
        rfl
    · rintro H3 ⟨s3, hDi⟩
      rw [List.take_of_length_le (by rw [lz]; exact Nat.le_refl _)] at hDi
      refine q _ D n2 g2 H3 (by rw [List.length_map, lz]; exact c1) (by rw [List.length_map, lz]; exact c2) (fun z hz => ?_) (by omega) ((offA.trans off2).trans (offS s3)) (pen2.same s3) hDi nDp
      obtain ⟨c, hc, rfl⟩ := List.mem_map.mp hz
      exact (crew_ok st hst c (c3 c hc)).1
/-! ### the text of a row, by the law -/
theorem mom_no84 {m : Int} (h : 0 ≤ m) : 84 ∉ (Str.ofString (toString m)).cps.toList ∧ 70 ∉ (Str.ofString (toString m)).cps.toList := by
  obtain ⟨k, rfl⟩ : ∃ k : Nat, m = k := ⟨m.toNat, by omega⟩
  have e : (Str.ofString (toString ((k : Nat) : Int))).cps.toList = numL k := tl_num k
  rw [e]
  exact ⟨fun h => by have := numL_digits k _ h; omega, fun h => by have := numL_digits k _ h; omega⟩
abbrev kvsT : List (Key × V) := [(.inr "True", .str "sound"), (.inr "False", .str "unsound")]
def strV : V → Str
  | .str z => z
  | .int i => (toString i : String)
  | .bl b => if b then "True" else "False"
  | _ => Str.empty
theorem not_true {z : Str} (h : ¬ z = "True") (h2 : ¬ z = "False") : valV (mergeK [] kvsT) (.inr z) = none := by
  rw [show mergeK [] kvsT = kvsT from rfl, valV_neg (fun e => h (Sum.inr.inj e).symm), valV_neg (fun e => h2 (Sum.inr.inj e).symm)]
  rfl
theorem truth_get {v : V} (h : Flat1 v) : (valV (mergeK [] kvsT) (.inr (strV v))).getD (.str (strV v)) = .str (wordV v) := by
  cases h with
  | @nam z hz =>
    have h1 : ¬ z = "True" := fun e => by rw [e] at hz; revert hz; decide +kernel
    have h2 : ¬ z = "False" := fun e => by rw [e] at hz; revert hz; decide +kernel
    show (valV (mergeK [] kvsT) (.inr z)).getD (.str z) = _
    rw [not_true h1 h2]
    rfl
  | @mom i hi =>
    have h84 := mom_no84 hi.1
    have h1 : ¬ (Str.ofString (toString i)) = "True" := fun e => h84.1 (by rw [e]; decide +kernel)
    have h2 : ¬ (Str.ofString (toString i)) = "False" := fun e => h84.2 (by rw [e]; decide +kernel)
    show (valV (mergeK [] kvsT) (.inr (Str.ofString (toString i)))).getD (.str (Str.ofString (toString i))) = _
    rw [not_true h1 h2]
    rfl
  | tru b => cases b <;> rfl
end
end K14

namespace K14
open PySem PySem.Spec PyProof.Rows L2 So LamX StX TL
abbrev lisN : List Str := ["_law_word", "_law_letters", "_law_sign"]
def offs (p : Nat → Bool) (l : List Nat) : List Str := (l.filter fun c => !p c).map fun c => ⟨#[c]⟩
theorem offs_nil {p : Nat → Bool} : ∀ l : List Nat, (offs p l).isEmpty = l.all p
  | [] => rfl
  | c :: r => by
    have ih := offs_nil (p := p) r
    cases e : p c with
    | true =>
      have : offs p (c :: r) = offs p r := by simp [offs, e]
      rw [this, ih, List.all_cons, e, Bool.true_and]
    | false =>
      have : offs p (c :: r) = ⟨#[c]⟩ :: offs p r := by simp [offs, e]
      rw [this, List.all_cons, e, Bool.false_and]
      rfl
theorem offs_snoc {p : Nat → Bool} {z : Str} {i c : Nat} (h : z.cps.toList[i]? = some c) : offs p (z.cps.toList.take (i + 1)) = offs p (z.cps.toList.take i) ++ (if p c = true then [] else [⟨#[c]⟩]) := by
  have et : z.cps.toList.take (i + 1) = z.cps.toList.take i ++ [c] := by rw [List.take_add_one, h]; rfl
  rw [et]
  unfold offs
  rw [List.filter_append, List.map_append]
  congr 1
  cases e : p c with
  | true => simp [e]
  | false => simp [e]
theorem offs_len {p : Nat → Bool} (l : List Nat) (i : Nat) : (offs p (l.take i)).length ≤ l.length := by
  unfold offs
  rw [List.length_map]
  refine Nat.le_trans (List.length_filter_le _ _) ?_
  rw [List.length_take]
  omega
section
variable {P : Program} {w : World} {K : PySem.W.Frag} {mg : Str → Option Value} {base : Heap}
def spLIs : Sp := fun vs H Q _ => ∃ z : Str, vs = [.str z] ∧ z.length ≤ 2000 ∧ ∀ H', Same H H' → Q (.bl (isName z)) H'
theorem ok_lis {f fW : Addr} {fd fdW : FuncData} (F : Fun K "_law_is_name" "_law_is_name" sLIs f fd) (ml : mg "len" = none) (FW : Fun K "_law_words" "_law_words" sWords fW fdW) (bW : Binds K fdW [] []) (gW : mg "_law_words" = some (.ref fW)) (GW : FnOk P w K mg base CX0 1 fW fdW [] spWords) :
    FnOk P w K mg base CX0 2 f fd ["_law_word"] spLIs := by
  refine F.ok scLIs (fun vs H Q E h => ?_) (fun cdv A outer s H vs Q E hr h => ?_)
  · obtain ⟨z, rfl, _⟩ := h
    rfl
  · obtain ⟨z, rfl, hz, q⟩ := h
    refine ⟨_, pss_cons (ps_set (i := 1) scLIs.nd rfl (.inr rfl) pe_str)
      (pss_cons (ps_if (PW.pt (pw_or (pt_not (pt_chain op_le op_le pe_int (pe_callB call_len_str (by rfl) ml PySem.boot_len (pa_cons (pv 0) pa_nil)) pe_int))
          (pw_or (pt_cmpR op_in_seq (pv 0) (pe_call0 GW hr (by rfl) gW FW.kp bW .nil pass0) (by rfl)) (pw_or1 (pt_cmpR op_notIn_sign (pe_ix ix_str (pv 0) pe_int (fun _ _ => rfl)) (pv 1) (by rfl)))))) (pss_one (ps_ret pe_bl)) pss_nil)
      (pss_one (ps_ret (pe_cmpR (op_eqNil (by have := hr.units0; exact this)) (pe_lc (own := [("_law_sign", 2)]) (g := gName 2) rfl scLIs.nd (pi_str (pv 0)) (blkOk_by (N := lisN) (sc := defScope sLIs) (by decide +kernel))
        (fun _ _ _ _ _ => pg_name (i := 2) scLIs.nd rfl (Or.inl rfl)) (fun _ _ _ _ _ => pts_one (pt_cmpR op_notIn_sign (pv 2) (pe_op op_add_str (pv 1) pe_str) (by rfl))) (fun _ _ _ _ _ => pv 2)) (pe_lst pa_nil) (nomark _))))), ?_⟩
    have hzl : z.length ≤ sizeLine := Nat.le_trans hz (by decide)
    have no : isName z = false → ∀ H', Same H H' → Q (.bl false) H' := fun e H' s => by
      have := q H' s
      rw [e] at this
      exact this
    refine ⟨_, rfl, _, rfl, hzl, _, _, rfl, rfl, _, rfl, ite2 (fun c1 => ?_) (fun c1 => ⟨_, rfl, iteT (no ?_ H (Same.refl H))⟩)⟩
    case refine_2 =>
      have c1' : ¬ (1 : Int) ≤ ((z.length : Nat) : Int) := fun e => c1 (decide_eq_true e)
      unfold isName
      rw [show decide (1 ≤ z.length) = false from decide_eq_false (by omega)]
      rfl
    have c1' : (1 : Int) ≤ ((z.length : Nat) : Int) := of_decide_eq_true c1
    refine ⟨_, _, rfl, rfl, _, rfl, ?_⟩
    by_cases c2 : ((z.length : Nat) : Int) ≤ 8
    case neg =>
      rw [decide_eq_false c2]
      refine iteT (no ?_ H (Same.refl H))
      unfold isName
      rw [show decide (z.length ≤ 8) = false from decide_eq_false (by omega), Bool.and_false]
      rfl
    rw [decide_eq_true c2]
    have hz0 : 0 < z.cps.toList.length := by
      have : z.length = z.cps.toList.length := Array.length_toList.symm
      omega
    obtain ⟨c0, cr, hc⟩ : ∃ c0 cr, z.cps.toList = c0 :: cr := by
      cases e : z.cps.toList with
      | nil => rw [e] at hz0; cases hz0
      | cons a r => exact ⟨a, r, rfl⟩
    have e1 : decide (1 ≤ z.length) = true := decide_eq_true (by omega)
    have e2 : decide (z.length ≤ 8) = true := decide_eq_true (by omega)
    have e3 : isName z = (!(noNames.contains z) && decide (c0 ∈ letters.cps.toList) && z.cps.toList.all isAln) := by
      unfold isName
      rw [e1, e2, hc]
      rfl
    have el : (("abcdefghijklmnopqrstuvwxyz" : Str)) = letters := rfl
    refine iteF ⟨_, rfl, rfl, fun H4 aW s4 hW hH4 => ?_⟩
    refine ⟨aW, _, rfl, .inl (SqL.of hH4), rfl, flat_strs _, ?_⟩
    rw [show (if false = true then !inV (V.str z) (noNames.map V.str) else inV (V.str z) (noNames.map V.str)) = noNames.contains z from inV_strs z noNames]
    refine ⟨_, rfl, ?_⟩
    cases c3 : noNames.contains z with
    | true =>
      refine iteT (no ?_ H4 s4)
      rw [e3, c3]
      rfl
    | false =>
      refine iteF ⟨_, rfl, _, _, c0, rfl, rfl, hzl, ?_, _, rfl, _, _, rfl, rfl, _, rfl, ?_⟩
      · rw [hc]
        exact atI_nat (j := 0) rfl
      by_cases c4 : c0 ∈ letters.cps.toList
      case neg =>
        rw [el, decide_eq_false c4]
        refine iteT (no ?_ H4 s4)
        rw [e3, decide_eq_false c4, Bool.and_false, Bool.false_and]
      rw [el, decide_eq_true c4]
      refine iteF ?_
      refine ⟨_, rfl, _, rfl, fun D hD => lc_it walk_str (fun i H' => H' D = some (.lst ((offs isAln (z.cps.toList.take i)).map V.str)) ∧ Same H4 H') ⟨?_, ?_⟩ (fun _ _ _ _ => trivial) ?_ ?_⟩
      · exact upd_same
      · exact same_upd0 hD
      · rintro i x H1 H2 hi ⟨h1, s1⟩ ⟨rfl, c, hc1, rfl⟩
        have hc2 : z.cps.toList[i]? = some c := by
          rw [Array.getElem?_toList]
          exact hc1
        refine ⟨rfl, _, rfl, _, rfl, _, _, rfl, rfl, by decide, c, _, rfl, rfl, _, rfl, ite2 (fun c5 => ?_) (fun c5 => ?_)⟩
        · have c5' : isAln c = false := by
            have h : (!isAln c) = true := c5
            simpa using h
          refine ⟨_, rfl, _, h1, ?_, ?_, Same.over s1 hD⟩
          · rw [List.length_map]
            refine Nat.lt_of_le_of_lt (offs_len _ _) ?_
            rw [Array.length_toList]
            exact Nat.lt_of_le_of_lt (show z.cps.size ≤ 2000 from hz) (by decide)
          · rw [upd_same, offs_snoc hc2, if_neg (by rw [c5']; exact Bool.false_ne_true), List.map_append]
            rfl
        · have c5' : isAln c = true := by
            have h : ¬ (!isAln c) = true := c5
            simpa using h
          refine ⟨?_, s1⟩
          rw [offs_snoc hc2, if_pos c5', List.append_nil]
          exact h1
      · rintro H1 ⟨h1, s1⟩
        rw [List.take_of_length_le (by rw [Array.length_toList]; exact Nat.le_refl _)] at h1
        refine ⟨Nat.zero_le _, fun p hp => ?_⟩
        have s2 := same_upd0 (o := .lst []) hp
        refine ⟨_, _, _, rfl, rfl, SqL.of (s2 _ _ h1), SqL.of upd_same, ?_⟩
        have q1 := q _ ((s4.trans s1).trans s2)
        rw [e3, c3, decide_eq_true c4] at q1
        show Q (.bl ((offs isAln z.cps.toList).map V.str).isEmpty) _
        rw [List.isEmpty_map, offs_nil]
        exact q1
def spText : Sp := fun vs H Q _ => ∃ (r : Addr) (kind : Str) (xs : List V), vs = [.ref r] ∧ H r = some (.tup (.str kind :: xs)) ∧ kind ∈ kinds ∧ FlatRow kind xs ∧ ∀ H', Same H H' → Q (.str (rowText kind xs)) H'
theorem kind_not : ∀ kind ∈ kinds, ¬ kind = ("True" : Str) ∧ ¬ kind = ("False" : Str) := by decide +kernel
theorem ok_text {f : Addr} {fd : FuncData} (F : Fun K "_law_text" "_law_text" sText f fd) (ms : mg "str" = none) : FnOk P w K mg base CX0 1 f fd ["_law_row"] spText := by
  refine F.ok scText (fun vs H Q E h => ?_) (fun cdv A outer s H vs Q E hr h => ?_)
  · obtain ⟨_, _, _, rfl, _⟩ := h
    rfl
  · obtain ⟨r, kind, xs, rfl, hx, hk, hf, q⟩ := h
    have strO : True := trivial
    refine ⟨_, pss_cons (ps_set (i := 1) scText.nd rfl (.inr rfl) (pe_disp (pps_cons pe_str pe_str (pps_cons pe_str pe_str pps_nil)) rfl rfl (by simp) (by decide)))
      (pss_one (ps_ret (pe_join pe_str (pe_lc (own := [("_law_part", 2)]) (g := gName 2) (tt := tYes) rfl scText.nd (pi_tup (pv 0)) (blkOk_by (N := ["_law_row", "_law_truths", "_law_part"]) (sc := defScope sText) (by decide +kernel))
          (fun _ _ _ _ _ => pg_name (i := 2) scText.nd rfl (Or.inl rfl)) (fun _ _ _ _ _ => pts_nil)
          (fun _ _ _ _ _ => pe_dget2 (hu_of hr) (pv 1) (pe_callTy (So.CallR.or SkE.call_str_str (So.CallR.or call_str_int call_str_bl)) (by rfl) ms (by decide +kernel) (pa_cons (pv 2) pa_nil)) (pe_callTy (So.CallR.or SkE.call_str_str (So.CallR.or call_str_int call_str_bl)) (by rfl) ms (by decide +kernel) (pa_cons (pv 2) pa_nil)) ⟨rfl, rfl, rfl, rfl⟩))))), ?_⟩
    have hfl := hf.flat
    have hl4 : xs.length ≤ 4 := by rw [hf.1]; exact forms_len kind hk
    have hsz := sizeLine_eq
    intro dt hdt
    refine ⟨upd_same, kvsT, rfl, by decide, ?_⟩
    rw [upd_upd]
    have s1 := same_upd0 (o := .dK (mergeK [] kvsT)) hdt
    have hd1 : (upd H dt (.dK (mergeK [] kvsT))) dt = some (.dK (mergeK [] kvsT)) := upd_same
    have hx1 := s1 _ _ hx
    revert s1 hd1 hx1
    generalize upd H dt (.dK (mergeK [] kvsT)) = H1
    intro s1 hd1 hx1
    have each : ∀ v ∈ V.str kind :: xs, (∃ z, v = .str z ∧ (valV (mergeK [] kvsT) (.inr z)).getD (.str z) = .str (wordV v)) ∨ Flat1 v := by
      intro v hv
      rcases List.mem_cons.mp hv with e | e
      · refine .inl ⟨kind, e, ?_⟩
        rw [not_true (kind_not kind hk).1 (kind_not kind hk).2, e]
        rfl
      · exact .inr (hfl v e)
    refine ⟨⟨_, rfl⟩, _, rfl, r, rfl, ⟨_, SqT.of hx1⟩, fun D hD => ?_⟩
    refine lc_it walk_tup (fun k H' => Same H1 H' ∧ H' D = some (.lst (((V.str kind :: xs).take k).map fun v => .str (wordV v)))) ⟨Same.over (Same.refl H1) hD, upd_same⟩ (fun _ _ _ y => SqT.of (y.1 _ _ hx1)) ?_ ?_
    · rintro k x H2 H3 hk2 ⟨s2, hDk⟩ ⟨rfl, hxk⟩
      have et : (V.str kind :: xs).take (k + 1) = (V.str kind :: xs).take k ++ [x] := by rw [List.take_add_one, hxk]; rfl
      have hlt : (((V.str kind :: xs).take k).map fun v => V.str (wordV v)).length < sizeLine := by
        rw [List.length_map]
        have h2 : ((V.str kind :: xs).take k).length ≤ (V.str kind :: xs).length := List.length_take_le' _ _
        rw [List.length_cons] at h2
        omega
      have hd3 := s2 _ _ hd1
      have fin : ∀ z : Str, (valV (mergeK [] kvsT) (.inr z)).getD (.str z) = .str (wordV x) → ∃ o, DGet H3 dt (.str z) o ∧ ∃ acc, H3 D = some (.lst acc) ∧ acc.length < sizeLine ∧ Same H1 (upd H3 D (.lst (acc ++ [o.getD (.str z)]))) ∧ (upd H3 D (.lst (acc ++ [o.getD (.str z)]))) D = some (.lst (((V.str kind :: xs).take (k + 1)).map fun v => .str (wordV v))) := fun z e => by
        refine ⟨_, .inl ⟨_, .inr z, .inl hd3, rfl, rfl⟩, _, hDk, hlt, Same.over s2 hD, ?_⟩
        rw [e, et, List.map_append]
        exact upd_same
      rcases each x (List.mem_of_getElem? hxk) with ⟨z, rfl, e⟩ | hv
      · exact ⟨rfl, _, rfl, dt, rfl, .inl ⟨_, .inl hd3⟩, _, rfl, .inl ⟨_, rfl, _, rfl, .inl ⟨_, rfl, fin z e⟩⟩⟩
      · have te := truth_get hv
        cases hv with
        | @nam z hz => exact ⟨rfl, _, rfl, dt, rfl, .inl ⟨_, .inl hd3⟩, _, rfl, .inl ⟨_, rfl, _, rfl, .inl ⟨_, rfl, fin z te⟩⟩⟩
        | @mom i hi => exact ⟨rfl, _, rfl, dt, rfl, .inl ⟨_, .inl hd3⟩, _, rfl, .inr (.inl ⟨_, rfl, mom_log hi, _, rfl, .inr (.inl ⟨_, rfl, mom_log hi, fin _ te⟩)⟩)⟩
        | @tru b => exact ⟨rfl, _, rfl, dt, rfl, .inl ⟨_, .inl hd3⟩, _, rfl, .inr (.inr ⟨_, rfl, _, rfl, .inr (.inr ⟨_, rfl, fin _ te⟩)⟩)⟩
    · rintro H2 ⟨s2, hDk⟩
      rw [List.take_length] at hDk
      refine ⟨_, D, (V.str kind :: xs).map wordV, rfl, rfl, .inl (SqL.of ?_), ?_, q H2 (s1.trans s2)⟩
      · rw [hDk, List.map_map]
        rfl
      · have := words_sum hfl
        have hk8 := kind_len kind hk
        have e3 : ((" " : Str)).length = 1 := by decide
        rw [List.map_cons, List.map_cons, List.sum_cons, List.length_cons, List.length_map, e3]
        show kind.length + _ + _ ≤ _
        omega
end
end K14

namespace K14
open PySem PySem.Spec PyProof.Rows L2 So LamX StX TL
/-! ### moved and renamed arguments, by the values alone -/
def leastOf (kind : Str) : Int := if kind = "begun" ∨ kind = "setby" then 1 else 0
def inB (least i : Int) : Bool := decide (least ≤ i ∧ i ≤ 1000000000000000000000000000000)
/-- the moved moments that cannot stand -/
def wrI (n least : Int) : V → Option Int
  | .int i => if inB least (i + n) = true then none else some (i + n)
  | _ => none
def wrL (n least : Int) (xs : List V) : List Int := xs.filterMap (wrI n least)
def firstV : List Int → V
  | [] => .non
  | w :: _ => .int w
theorem forms_least : ∀ kind ∈ kinds, ∀ f ∈ formsOf kind, (f = "moment" → leastOf kind = 0) ∧ (f = "beginning" → leastOf kind = 1) := by decide +kernel
theorem ok_least {f : Str} {i least : Int} (hf : isMom f = true) (h : (f = "moment" → least = 0) ∧ (f = "beginning" → least = 1)) : okF f (.int i) = inB least i := by
  unfold isMom at hf
  rw [List.contains_iff_mem] at hf
  simp only [List.mem_cons, List.not_mem_nil, or_false] at hf
  rcases hf with rfl | rfl
  · rw [okF_m, h.1 rfl]; rfl
  · rw [okF_b, h.2 rfl]; rfl
theorem not_mom {f : Str} (hf : f ∈ (["name", "moment", "beginning", "truth"] : List Str)) (h : ¬ isMom f = true) : f = "name" ∨ f = "truth" := by
  simp only [List.mem_cons, List.not_mem_nil, or_false] at hf
  rcases hf with e | e | e | e
  · exact .inl e
  · exact absurd (by rw [e]; decide +kernel) h
  · exact absurd (by rw [e]; decide +kernel) h
  · exact .inr e
theorem mv1_add {n : Int} {u : V} {f : Str} (hf : f ∈ (["name", "moment", "beginning", "truth"] : List Str)) (o : okF f u = true) : mv1 n (u, f) = addV n u := by
  unfold mv1
  by_cases c : isMom f = true
  · simp only [c, if_true]
  · simp only [c, if_false]
    rcases not_mom hf c with rfl | rfl
    · obtain ⟨z, rfl, _⟩ := nam_str o
      rfl
    · rw [okF_t] at o
      cases u with
      | bl b => rfl
      | _ => cases o
theorem rn1_get {kvs : List (Key × V)} {u : V} {f : Str} (hf : f ∈ (["name", "moment", "beginning", "truth"] : List Str)) (o : okF f u = true) : rn1 kvs (u, f) = getK kvs u := by
  unfold rn1
  by_cases c : f = "name"
  · simp only [c, if_true]
  · simp only [c, if_false]
    by_cases d : isMom f = true
    · obtain ⟨i, rfl⟩ := mom_int d o
      rfl
    · rcases not_mom hf d with e | rfl
      · exact absurd e c
      · rw [okF_t] at o
        cases u with
        | bl b => rfl
        | _ => cases o
theorem row_map {kind : Str} {xs : List V} (hk : kind ∈ kinds) (h : FlatRow kind xs) {g : V × Str → V} {k : V → V} (e : ∀ u f, f ∈ (["name", "moment", "beginning", "truth"] : List Str) → okF f u = true → g (u, f) = k u) : (xs.zip (formsOf kind)).map g = xs.map k := by
  obtain ⟨hl, h2⟩ := h
  have hf := forms_in kind hk
  generalize formsOf kind = fo at hl h2 hf
  induction xs generalizing fo with
  | nil => rfl
  | cons u r ih =>
    cases fo with
    | nil => cases hl
    | cons f fr =>
      rw [List.zip_cons_cons, List.map_cons, List.map_cons, e u f (hf f List.mem_cons_self) (h2 (u, f) (by rw [List.zip_cons_cons]; exact List.mem_cons_self)).1]
      rw [ih fr (by simpa using hl) (fun q hq => h2 q (by rw [List.zip_cons_cons]; exact List.mem_cons_of_mem _ hq)) (fun x hx => hf x (List.mem_cons_of_mem _ hx))]
theorem mvL_eq {kind : Str} {xs : List V} {n : Int} (hk : kind ∈ kinds) (h : FlatRow kind xs) : mvL n (xs.zip (formsOf kind)) = xs.map (addV n) := row_map hk h fun u f => mv1_add
theorem rnL_eq {kind : Str} {xs : List V} {kvs : List (Key × V)} (hk : kind ∈ kinds) (h : FlatRow kind xs) : rnL kvs (xs.zip (formsOf kind)) = xs.map (getK kvs) := row_map hk h fun u f => rn1_get
/-- the row stands where no argument is wrong -/
theorem ok_flat {f : Str} {v : V} (hf : f ∈ (["name", "moment", "beginning", "truth"] : List Str)) (o : okF f v = true) : Flat1 v := by
  simp only [List.mem_cons, List.not_mem_nil, or_false] at hf
  rcases hf with e | e | e | e <;> subst e
  · obtain ⟨z, rfl, hz⟩ := nam_str o
    exact .nam hz
  · rw [okF_m] at o
    cases v with
    | int i => exact .mom (of_decide_eq_true o)
    | _ => cases o
  · rw [okF_b] at o
    cases v with
    | int i => have : 1 ≤ i ∧ i ≤ 1000000000000000000000000000000 := of_decide_eq_true o; exact .mom ⟨by omega, this.2⟩
    | _ => cases o
  · rw [okF_t] at o
    cases v with
    | bl b => exact .tru b
    | _ => cases o
theorem badL_none {CN CM CS : Addr} : ∀ {l : List (V × Str)}, badL CN CM CS l = none → ∀ q ∈ l, okF q.2 q.1 = true
  | [], _, _, h => nomatch h
  | (v, f) :: r, h, q, hq => by
    unfold badL at h
    split at h
    · rename_i c
      rcases List.mem_cons.mp hq with e | e
      · rw [e]; exact c
      · exact badL_none h q e
    · cases h
theorem row_stands {CN CM CS : Addr} {kind : Str} {ys : List V} (hk : kind ∈ kinds) (hl : ys.length = (formsOf kind).length) (h : badL CN CM CS (ys.zip (formsOf kind)) = none) : FlatRow kind ys :=
  ⟨hl, fun q hq => ⟨badL_none h q hq, ok_flat (forms_in kind hk _ (List.of_mem_zip hq).2) (badL_none h q hq)⟩⟩
/-- which moment of a moved row cannot stand first -/
theorem bad_moved {CN CM CS : Addr} {kind : Str} {xs : List V} {n : Int} (hk : kind ∈ kinds) (h : FlatRow kind xs) : badL CN CM CS ((xs.map (addV n)).zip (formsOf kind)) = match wrL n (leastOf kind) xs with
    | [] => none
    | w :: _ => some (CM, ("moment" : Str), V.int w) := by
  obtain ⟨hl, h2⟩ := h
  have hf := forms_in kind hk
  have hm := forms_least kind hk
  generalize leastOf kind = least at hm ⊢
  generalize formsOf kind = fo at hl h2 hf hm
  induction xs generalizing fo with
  | nil => cases fo <;> rfl
  | cons u r ih =>
    cases fo with
    | nil => cases hl
    | cons f fr =>
      have ih' := ih fr (by simpa using hl) (fun q hq => h2 q (by rw [List.zip_cons_cons]; exact List.mem_cons_of_mem _ hq)) (fun x hx => hf x (List.mem_cons_of_mem _ hx)) (fun x hx => hm x (List.mem_cons_of_mem _ hx))
      have o := (h2 (u, f) (by rw [List.zip_cons_cons]; exact List.mem_cons_self)).1
      have hff := hf f List.mem_cons_self
      rw [List.map_cons, List.zip_cons_cons]
      by_cases c : isMom f = true
      · obtain ⟨i, rfl⟩ := mom_int c o
        have e := ok_least (i := i + n) c (hm f List.mem_cons_self)
        have nn : ¬ f = "name" := fun z => by rw [z] at c; revert c; decide +kernel
        have nt : ¬ f = "truth" := fun z => by rw [z] at c; revert c; decide +kernel
        show badL CN CM CS ((V.int (i + n), f) :: _) = _
        unfold badL
        rw [e]
        cases b : inB least (i + n) with
        | true =>
          have ew : wrL n least (.int i :: r) = wrL n least r := by unfold wrL; rw [List.filterMap_cons]; simp [wrI, b]
          simp only [if_true]
          rw [ew]
          exact ih'
        | false =>
          have ew : wrL n least (.int i :: r) = (i + n) :: wrL n least r := by unfold wrL; rw [List.filterMap_cons]; simp [wrI, b]
          rw [ew, if_neg Bool.false_ne_true, if_neg nn, if_neg nt]
      · have ea : addV n u = u ∧ wrI n least u = none := by
          rcases not_mom hff c with rfl | rfl
          · obtain ⟨z, rfl, _⟩ := nam_str o
            exact ⟨rfl, rfl⟩
          · rw [okF_t] at o
            cases u with
            | bl b => exact ⟨rfl, rfl⟩
            | _ => cases o
        have ew : wrL n least (u :: r) = wrL n least r := by unfold wrL; rw [List.filterMap_cons, ea.2]
        rw [ea.1, ew]
        unfold badL
        rw [if_pos o]
        exact ih'
/-- the new names that are none -/
def wnL (kvs : List (Key × V)) (xs : List V) : List V := ((xs.filter isS).map (getK kvs)).filter fun v => !gNam v
theorem bad_renamed {CN CM CS : Addr} {kind : Str} {xs : List V} {kvs : List (Key × V)} (hk : kind ∈ kinds) (h : FlatRow kind xs) : badL CN CM CS ((xs.map (getK kvs)).zip (formsOf kind)) = match wnL kvs xs with
    | [] => none
    | w :: _ => some (CN, ("name" : Str), w) := by
  obtain ⟨hl, h2⟩ := h
  have hf := forms_in kind hk
  generalize formsOf kind = fo at hl h2 hf
  induction xs generalizing fo with
  | nil => cases fo <;> rfl
  | cons u r ih =>
    cases fo with
    | nil => cases hl
    | cons f fr =>
      have ih' := ih fr (by simpa using hl) (fun q hq => h2 q (by rw [List.zip_cons_cons]; exact List.mem_cons_of_mem _ hq)) (fun x hx => hf x (List.mem_cons_of_mem _ hx))
      have o := (h2 (u, f) (by rw [List.zip_cons_cons]; exact List.mem_cons_self)).1
      have hff := hf f List.mem_cons_self
      rw [List.map_cons, List.zip_cons_cons]
      by_cases c : f = "name"
      · subst c
        obtain ⟨z, rfl, _⟩ := nam_str o
        unfold badL
        rw [okF_n]
        cases b : gNam (getK kvs (.str z)) with
        | true =>
          have ew : wnL kvs (.str z :: r) = wnL kvs r := by
            unfold wnL
            rw [List.filter_cons_of_pos rfl, List.map_cons, List.filter_cons_of_neg (by simp [b])]
          rw [if_pos rfl, ew]
          exact ih'
        | false =>
          have ew : wnL kvs (.str z :: r) = getK kvs (.str z) :: wnL kvs r := by
            unfold wnL
            rw [List.filter_cons_of_pos rfl, List.map_cons, List.filter_cons_of_pos (by simp [b])]
          rw [ew, if_neg Bool.false_ne_true, if_pos rfl]
      · have ea : getK kvs u = u ∧ isS u = false := by
          by_cases d : isMom f = true
          · obtain ⟨i, rfl⟩ := mom_int d o
            exact ⟨rfl, rfl⟩
          · rcases not_mom hff d with e | rfl
            · exact absurd e c
            · rw [okF_t] at o
              cases u with
              | bl b => exact ⟨rfl, rfl⟩
              | _ => cases o
        have ew : wnL kvs (u :: r) = wnL kvs r := by
          unfold wnL
          rw [List.filter_cons_of_neg (by rw [ea.2]; exact Bool.false_ne_true)]
        rw [ea.1, ew]
        unfold badL
        rw [if_pos o]
        exact ih'
end K14

namespace K14
open PySem PySem.Spec PyProof.Rows L2 So LamX StX TL
section
variable {P : Program} {w : World} {K : PySem.W.Frag} {mg : Str → Option Value} {base : Heap}
def movedN : List Str := ["_law_row", "_law_much", "_law_some", "_law_wrong", "_law_least", "_law_part"]
def spMoved : Sp := fun vs H Q _ => ∃ (r : Addr) (kind : Str) (xs : List V) (n : Int), vs = [.ref r, .int n] ∧ H r = some (.tup (.str kind :: xs)) ∧ kind ∈ kinds ∧ FlatRow kind xs ∧
  ∀ (H' : Hp) (tt du : Addr), Same H H' → H' du = some (.tup (.str kind :: xs.map (addV n))) → H' tt = some (.tup [.ref du, firstV (wrL n (leastOf kind) xs)]) → Q (.ref tt) H'
theorem least_in : ∀ kind ∈ kinds, (if (["begun", "setby"] : List Str).contains kind then (1 : Int) else 0) = leastOf kind := by decide +kernel
theorem ok_moved {f : Addr} {fd : FuncData} (F : Fun K "_law_moved" "_law_moved" sMoved f fd) (mi : mg "int" = none) (mb : mg "bool" = none) (ms : mg "isinstance" = none) (mt : mg "tuple" = none) : FnOk P w K mg base CX0 1 f fd ["_law_row", "_law_much"] spMoved := by
  refine F.ok scMoved (fun vs H Q E h => ?_) (fun cdv A outer s H vs Q E hr h => ?_)
  · obtain ⟨_, _, _, _, rfl, _⟩ := h
    rfl
  · obtain ⟨r, kind, xs, n, rfl, hx, hk, hf, q⟩ := h
    refine ⟨_, pss_cons (ps_par (i := 2) (j := 3) (by rfl) scMoved.nd rfl rfl (by decide) rfl rfl (pa_cons (pe_lst pa_nil) (pa_cons (pe_lst pa_nil) pa_nil)) (by rfl))
      (pss_cons (ps_set (i := 4) scMoved.nd rfl (.inl rfl) (pe_callTy call_int1 (by rfl) mi (by decide +kernel) (pa_cons (pe_cmpR op_in_seq (pe_ix ix_tup (pv 0) pe_int (fun _ _ => rfl)) (pe_tup (pa_cons pe_str (pa_cons pe_str pa_nil))) (by rfl)) pa_nil)))
      (pss_cons (ps_for PassesOwn.never rfl (pi_tup (pv 0)) (pg_name (i := 5) scMoved.nd rfl (Or.inl rfl))
        (pss_cons (ps_cut (ps_if (PW.pt (pw_and (pt_val (pe_callB (isiK (K := K) rfl) (by rfl) ms (by decide +kernel) (pa_cons (pv 5) (pa_cons (pe_bltn (v := .ty "int") (by rfl) mi (by decide +kernel) rfl) pa_nil))))
            (pw_and1 (pt_not (pt_val (pe_callB (isiK (K := K) rfl) (by rfl) ms (by decide +kernel) (pa_cons (pv 5) (pa_cons (pe_bltn (v := .ty "bool") (by rfl) mb (by decide +kernel) rfl) pa_nil))))))))
          (pss_cons (ps_set (i := 5) scMoved.nd rfl (.inl rfl) (pe_op op_add (pv 5) (pv 1)))
            (pss_one (ps_if (pt_not (pt_chain op_le op_le (pv 4) (pv 5) (pe_op op_pow pe_int pe_int))) (pss_one (ps_expr (pe_bm PySem.F.plainAttrs_list PySem.F.slot_list_append PySem.F.type_list_append mt_append (pv 3) (pa_cons (pv 5) pa_nil)))) pss_nil))) pss_nil))
          (pss_one (ps_expr (pe_bm PySem.F.plainAttrs_list PySem.F.slot_list_append PySem.F.type_list_append mt_append (pv 2) (pa_cons (pv 5) pa_nil))))))
      (pss_one (ps_ret (pe_tup (pa_cons (pe_callTy call_tuple_of (by rfl) mt (by decide +kernel) (pa_cons (pv 2) pa_nil)) (pa_cons (pe_ix ix_list (pe_op op_cat (pv 3) (pe_lst (pa_cons pe_non pa_nil))) pe_int (fun _ _ => rfl)) pa_nil))))))), ?_⟩
    have hfl := hf.flat
    have hl4 : xs.length ≤ 4 := by rw [hf.1]; exact forms_len kind hk
    have hsz := sizeLine_eq
    refine ⟨by show 0 ≤ sizeLine; decide, fun sl hsl => ⟨by show 0 ≤ sizeLine; decide, fun wl hwl => ⟨_, _, rfl, ?_⟩⟩⟩
    have s1 := (same_upd0 (o := .lst []) hsl).trans (same_upd0 (o := .lst []) hwl)
    have hs1 : (upd (upd H sl (.lst [])) wl (.lst [])) sl = some (.lst []) := same_upd0 hwl _ _ upd_same
    have hw1 : (upd (upd H sl (.lst [])) wl (.lst [])) wl = some (.lst []) := upd_same
    have nsw : sl ≠ wl := fun z => by rw [← z, upd_same] at hwl; cases hwl
    have hwl0 : H wl = none := (same_upd0 (o := .lst []) hsl).free hwl
    have hx1 := s1 _ _ hx
    revert s1 hs1 hw1 hx1
    generalize upd (upd H sl (.lst [])) wl (.lst []) = H1
    intro s1 hs1 hw1 hx1
    refine ⟨_, rfl, r, _, _, _, rfl, rfl, SqT.of hx1, atI_nat (j := 0) rfl, by show 2 ≤ sizeLine; decide, fun tm htm => ⟨tm, _, rfl, .inr (SqT.of upd_same), rfl, flat_strs ["begun", "setby"], ?_⟩⟩
    rw [show (if false = true then !inV (V.str kind) [V.str "begun", V.str "setby"] else inV (V.str kind) [V.str "begun", V.str "setby"]) = (["begun", "setby"] : List Str).contains kind from inV_strs kind ["begun", "setby"]]
    have s2 := same_upd0 (o := .tup [V.str "begun", V.str "setby"]) htm
    have hs2 := s2 _ _ hs1
    have hw2 := s2 _ _ hw1
    have hx2 := s2 _ _ hx1
    replace s2 := s1.trans s2
    revert s2 hs2 hw2 hx2
    generalize upd H1 tm (.tup [V.str "begun", V.str "setby"]) = H2
    intro hs2 hw2 hx2 s2
    refine .inr ⟨_, rfl, ?_⟩
    rw [show (if (["begun", "setby"] : List Str).contains kind = true then (1 : Int) else 0) = leastOf kind from least_in kind hk]
    generalize leastOf kind = least at q ⊢
    have each : ∀ v ∈ V.str kind :: xs, (∃ z, v = .str z ∧ z.length ≤ 2000) ∨ (∃ i, v = .int i) ∨ ∃ b, v = .bl b := by
      intro v hv
      rcases List.mem_cons.mp hv with e | e
      · exact .inl ⟨kind, e, Nat.le_trans (kind_len kind hk) (by decide)⟩
      · cases hfl v e with
        | nam h => exact .inl ⟨_, rfl, Nat.le_trans (name_len h) (by decide)⟩
        | mom h => exact .inr (.inl ⟨_, rfl⟩)
        | tru b => exact .inr (.inr ⟨_, rfl⟩)
    refine ⟨_, rfl, r, rfl, ⟨_, SqT.of hx2⟩, ?_⟩
    refine for_it walk_tup (fun k σ G => ∃ x5 : Option V, σ = [some (.ref r), some (.int n), some (.ref sl), some (.ref wl), some (.int least), x5] ∧ (∀ b o, b ≠ sl → b ≠ wl → H2 b = some o → G b = some o) ∧ G sl = some (.lst (((V.str kind :: xs).take k).map (addV n))) ∧ G wl = some (.lst ((wrL n least ((V.str kind :: xs).take k)).map V.int)))
      ⟨_, rfl, fun _ _ _ _ e => e, hs2, hw2⟩ (fun _ _ _ _ ⟨_, _, o, _⟩ => SqT.of (o _ _ (ne_of hx2 hs2 (fun z => nomatch z)) (ne_of hx2 hw2 (fun z => nomatch z)) hx2)) ?_ ?_
    · rintro k x σ G G' hk2 ⟨x5, rfl, off, hsG, hwG⟩ ⟨rfl, hxk⟩
      have et : (V.str kind :: xs).take (k + 1) = (V.str kind :: xs).take k ++ [x] := by rw [List.take_add_one, hxk]; rfl
      have ew : wrL n least ((V.str kind :: xs).take (k + 1)) = wrL n least ((V.str kind :: xs).take k) ++ (wrI n least x).toList := by
        rw [et]
        unfold wrL
        rw [List.filterMap_append]
        cases e : wrI n least x <;> simp [e]
      have hls : (((V.str kind :: xs).take k).map (addV n)).length ≤ 5 := by
        rw [List.length_map]
        have h2 : ((V.str kind :: xs).take k).length ≤ (V.str kind :: xs).length := List.length_take_le' _ _
        rw [List.length_cons] at h2
        omega
      have hlw : ((wrL n least ((V.str kind :: xs).take k)).map V.int).length ≤ 5 := by
        rw [List.length_map]
        unfold wrL
        have h1 := List.length_filterMap_le (wrI n least) ((V.str kind :: xs).take k)
        rw [List.length_map] at hls
        omega
      have fin : ∀ (σ' : L2.St) (G2 : Hp), σ' = [some (.ref r), some (.int n), some (.ref sl), some (.ref wl), some (.int least), some (addV n x)] → (∀ b o, b ≠ wl → G' b = some o → G2 b = some o) → G2 wl = some (.lst ((wrL n least ((V.str kind :: xs).take (k + 1))).map V.int)) →
          (σ'[2]? = some (some (.ref sl))) ∧ (σ'[5]? = some (some (addV n x))) ∧ G2 sl = some (.lst (((V.str kind :: xs).take k).map (addV n))) ∧ ∃ x5 : Option V, σ' = [some (.ref r), some (.int n), some (.ref sl), some (.ref wl), some (.int least), x5] ∧ (∀ b o, b ≠ sl → b ≠ wl → H2 b = some o → (upd G2 sl (.lst (((V.str kind :: xs).take k).map (addV n) ++ [addV n x]))) b = some o) ∧ (upd G2 sl (.lst (((V.str kind :: xs).take k).map (addV n) ++ [addV n x]))) sl = some (.lst (((V.str kind :: xs).take (k + 1)).map (addV n))) ∧ (upd G2 sl (.lst (((V.str kind :: xs).take k).map (addV n) ++ [addV n x]))) wl = some (.lst ((wrL n least ((V.str kind :: xs).take (k + 1))).map V.int)) := by
        intro σ' G2 e o2 w2
        subst e
        refine ⟨rfl, rfl, o2 _ _ nsw hsG, _, rfl, fun b o n1 n2 e => (upd_ne n1).trans (o2 _ _ n2 (off b o n1 n2 e)), ?_, (upd_ne nsw.symm).trans w2⟩
        rw [upd_same, et, List.map_append]
        rfl
      have app : ∀ (σ' : L2.St) (G2 : Hp), σ' = [some (.ref r), some (.int n), some (.ref sl), some (.ref wl), some (.int least), some (addV n x)] → (∀ b o, b ≠ wl → G' b = some o → G2 b = some o) → G2 wl = some (.lst ((wrL n least ((V.str kind :: xs).take (k + 1))).map V.int)) → True := fun _ _ _ _ _ => trivial
      refine ⟨fun σ' G2 => σ' = [some (.ref r), some (.int n), some (.ref sl), some (.ref wl), some (.int least), some (addV n x)] ∧ (∀ b o, b ≠ wl → G' b = some o → G2 b = some o) ∧ G2 wl = some (.lst ((wrL n least ((V.str kind :: xs).take (k + 1))).map V.int)), ?_, ?_⟩
      · rcases each x (List.mem_of_getElem? hxk) with ⟨z, rfl, hz⟩ | ⟨i, rfl⟩ | ⟨b, rfl⟩
        · refine ⟨_, rfl, _, _, _, _, false, rfl, .ty "int", (Gv.str z hz).ty, kit_ty (by decide +kernel), _, rfl, iteF ⟨rfl, fun _ _ _ e => e, ?_⟩⟩
          rw [ew, hwG]
          simp [wrI]
        · refine ⟨_, rfl, _, _, _, _, true, rfl, .ty "int", (Gv.int i).ty, kit_int_int, _, rfl, iteT ?_⟩
          refine ⟨_, rfl, _, _, _, _, false, rfl, .ty "bool", (Gv.int i).ty, kit_int_bool, _, rfl, iteT ?_⟩
          refine ⟨_, rfl, _, rfl, _, _, rfl, rfl, ?_⟩
          refine ⟨_, rfl, _, rfl, _, _, rfl, rfl, ?_⟩
          have e30 : ((10 : Int) ^ Int.toNat 30) = 1000000000000000000000000000000 := by decide +kernel
          refine ⟨_, rfl, ite2 (fun c1 => ?_) (fun c1 => ?_)⟩
          · have c1' : least ≤ i + n := of_decide_eq_true c1
            refine ⟨_, _, rfl, rfl, ⟨by decide, by decide, by decide⟩, _, _, rfl, rfl, _, rfl, ?_⟩
            have bd : inB least (i + n) = decide (i + n ≤ (10 : Int) ^ Int.toNat 30) := by
              unfold inB
              rw [e30]
              simp [c1']
            by_cases c2 : i + n ≤ (10 : Int) ^ Int.toNat 30
            · rw [decide_eq_true c2]
              refine iteF ⟨rfl, fun _ _ _ e => e, ?_⟩
              rw [decide_eq_true c2] at bd
              rw [ew, hwG]
              simp [wrI, bd]
            · rw [decide_eq_false c2]
              refine iteT ?_
              rw [decide_eq_false c2] at bd
              refine ⟨_, rfl, .inl ⟨rfl, _, SqL.of hwG⟩, _, rfl, wl, _, _, rfl, rfl, hwG, by omega, rfl, fun b o nb e => (upd_ne nb).trans e, ?_⟩
              rw [upd_same, ew, List.map_append]
              simp [wrI, bd]
          · have bd : inB least (i + n) = false := decide_eq_false fun z => c1 (decide_eq_true z.1)
            refine ⟨_, rfl, iteT ?_⟩
            refine ⟨_, rfl, .inl ⟨rfl, _, SqL.of hwG⟩, _, rfl, wl, _, _, rfl, rfl, hwG, by omega, rfl, fun b o nb e => (upd_ne nb).trans e, ?_⟩
            rw [upd_same, ew, List.map_append]
            simp [wrI, bd]
        · refine ⟨_, rfl, _, _, _, _, true, rfl, .ty "int", (Gv.bl b).ty, kit_ty (by decide +kernel), _, rfl, iteT ?_⟩
          refine ⟨_, rfl, _, _, _, _, true, rfl, .ty "bool", (Gv.bl b).ty, kit_bool_bool, _, rfl, iteF ⟨rfl, fun _ _ _ e => e, ?_⟩⟩
          rw [ew, hwG]
          simp [wrI]
      · rintro σ' G2 ⟨e, o2, w2⟩
        obtain ⟨f1, f2, f3, f4⟩ := fin σ' G2 e o2 w2
        exact ⟨_, f1, .inl ⟨rfl, _, SqL.of f3⟩, _, f2, sl, _, _, rfl, rfl, f3, by omega, f4⟩
    · rintro σ G ⟨x5, rfl, off, hsG, hwG⟩
      rw [List.take_length] at hsG hwG
      have ew : wrL n least (V.str kind :: xs) = wrL n least xs := by unfold wrL; rw [List.filterMap_cons]; rfl
      rw [ew] at hwG
      refine ⟨_, rfl, sl, _, rfl, .inl ⟨SqL.of hsG, fun tp htp => ?_⟩⟩
      have st := same_upd0 (o := .tup (((V.str kind :: xs)).map (addV n))) htp
      have htp1 : (upd G tp (.tup (((V.str kind :: xs)).map (addV n)))) tp = some (.tup (V.str kind :: xs.map (addV n))) := upd_same
      have hwl1 := st _ _ hwG
      have hG : Same H G := fun b o e => off b o (fun z => by rw [z, hsl] at e; cases e) (fun z => by rw [z, hwl0] at e; cases e) (s2 b o e)
      replace hG := hG.trans st
      revert htp1 hwl1 hG
      generalize upd G tp (.tup (((V.str kind :: xs)).map (addV n))) = G1
      intro htp1 hwl1 hG
      refine ⟨_, rfl, by show 1 ≤ sizeLine; decide, fun nl hnl => ?_⟩
      have s3 := same_upd0 (o := .lst [V.non]) hnl
      refine ⟨wl, nl, _, _, rfl, rfl, s3 _ _ hwl1, upd_same, ?_, fun cl hcl => ?_⟩
      · rw [List.length_map]
        have h1 := List.length_filterMap_le (wrI n least) xs
        show (wrL n least xs).length + 1 ≤ sizeLine
        unfold wrL
        omega
      have s4 := s3.trans (same_upd0 (o := .lst ((wrL n least xs).map V.int ++ [V.non])) hcl)
      refine ⟨cl, _, 0, firstV (wrL n least xs), rfl, rfl, SqL.of upd_same, ?_, by show 2 ≤ sizeLine; decide, fun t ht => ?_⟩
      · cases wrL n least xs with
        | nil => exact atI_nat (j := 0) rfl
        | cons a r => exact atI_nat (j := 0) rfl
      · have s5 := s4.trans (same_upd0 (o := .tup [.ref tp, firstV (wrL n least xs)]) ht)
        exact q _ t tp (hG.trans s5) (s5 _ _ htp1) upd_same
end
end K14

namespace K14
open PySem PySem.Spec PyProof.Rows L2 So LamX StX TL
/-! ### the text of a row shows -/
def asc (z : Str) : Prop := ∀ c ∈ z.cps.toList, c < 128
theorem of_joinL {S : List Nat} {c : Nat} : ∀ {ps : List (List Nat)}, c ∈ joinL S ps → c ∈ S ∨ ∃ p ∈ ps, c ∈ p
  | [], h => nomatch h
  | [p], h => .inr ⟨p, List.mem_singleton.mpr rfl, h⟩
  | p :: q :: r, h => by
    have h : c ∈ p ++ (S ++ joinL S (q :: r)) := h
    rcases List.mem_append.mp h with e | e
    · exact .inr ⟨p, List.mem_cons_self, e⟩
    · rcases List.mem_append.mp e with e | e
      · exact .inl e
      · rcases of_joinL e with e | ⟨w, hw, e⟩
        · exact .inl e
        · exact .inr ⟨w, List.mem_cons_of_mem _ hw, e⟩
theorem join_asc {ws : List Str} (h : ∀ w ∈ ws, asc w) : asc (Txt.join " " ws) := by
  intro c hc
  have hc : c ∈ tl (Txt.join " " ws) := hc
  rw [join_eq, tl_join] at hc
  rcases of_joinL hc with e | ⟨p, hp, e⟩
  · have : tl (" " : Str) = [32] := by decide +kernel
    rw [this] at e
    rw [List.mem_singleton.mp e]
    decide
  · obtain ⟨w, hw, rfl⟩ := List.mem_map.mp hp
    exact h w hw c e
theorem join_len (ws : List Str) : (Txt.join " " ws).length ≤ (ws.map (·.length)).sum + ws.length := by
  rw [join_eq]
  cases ws with
  | nil => decide
  | cons a l =>
    rw [len_join_cons, show (" " : Str).length = 1 by decide, List.length_cons]
    omega
theorem word_asc {v : V} (h : Flat1 v) : asc (wordV v) := by
  cases h with
  | nam h => exact name_small h
  | @mom i h =>
    intro c hc
    obtain ⟨k, rfl⟩ : ∃ k : Nat, i = k := ⟨i.toNat, by omega⟩
    have e : (Str.ofString (toString ((k : Nat) : Int))).cps.toList = numL k := tl_num k
    have hc : c ∈ (Str.ofString (toString ((k : Nat) : Int))).cps.toList := hc
    rw [e] at hc
    have := numL_digits k _ hc
    omega
  | tru b =>
    have : ∀ c ∈ (if b then ("sound" : Str) else "unsound").cps.toList, c < 128 := by cases b <;> decide +kernel
    exact this
theorem kind_asc : ∀ kind ∈ kinds, ∀ c ∈ kind.cps.toList, c < 128 := by decide +kernel
theorem text_ok {kind : Str} {xs : List V} (hk : kind ∈ kinds) (h : FlatRow kind xs) : OkD 9000 12 (.str (rowText kind xs)) := by
  have ha : asc (rowText kind xs) := join_asc fun w hw => by
    rcases List.mem_cons.mp hw with e | e
    · rw [e]; exact kind_asc kind hk
    · obtain ⟨v, hv, rfl⟩ := List.mem_map.mp e
      exact word_asc (h.flat v hv)
  have hl4 : xs.length ≤ 4 := by rw [h.1]; exact forms_len kind hk
  have h1 := words_sum h.flat
  have h2 := kind_len kind hk
  have h3 := join_len (kind :: xs.map wordV)
  rw [List.map_cons, List.sum_cons, List.length_cons, List.length_map] at h3
  have h4 : (rowText kind xs).length ≤ 820 := by
    show (Txt.join " " (kind :: xs.map wordV)).length ≤ 820
    omega
  have h5 := PySem.StrLaws.reprText_len (rowText kind xs) (fun c hc => Nat.lt_trans (ha c hc) (by decide))
  exact ⟨rfl, Nat.zero_le _, by show (reprText _).length ≤ 9000; omega⟩
theorem word_ok {z : Str} (h : (decide ((reprText z).length ≤ 100)) = true) : OkD 9000 12 (.str z) := ⟨rfl, Nat.zero_le _, Nat.le_trans (of_decide_eq_true h) (by decide)⟩
theorem pair_ok {a b : PyData} (h1 : OkD 9000 12 a) (h2 : OkD 9000 12 b) : (PyData.tuple [a, b]).showable = true ∧ (PyData.tuple [a, b]).depth ≤ 60 ∧ (PyData.tuple [a, b]).shown.length ≤ sizeLine :=
  (OkD.tuple (n := 9000) (m := 12) (ds := [a, b]) fun d hd => by
    simp only [List.mem_cons, List.not_mem_nil, or_false] at hd
    rcases hd with h | h <;> subst h
    · exact h1
    · exact h2).repr (by decide) (by show 9000 * 2 + 2 * 2 + 3 ≤ 16777216; decide)
end K14

namespace So
open PySem PySem.Spec PyProof.Rows L2 LamX
/-- the law's call, its tables of code objects and the guards told -/
theorem law_callTGs {P : Program} {w : World} {K : PySem.W.Frag} {mg mb : Str → Option Value} {CX : CXT} {k : Nat} {fa a : Addr} {cs : List (Addr × Addr)} {fd : FuncData} {x : Str} {sp : Sp} {s₁ : Shared} {vs : List Value} {ns : List Int}
    (KX : K.In s₁.heap) (hns : s₁.heap.Ns mainGlobals mg) (hb : s₁.heap.Ns builtinsNs mb) (hbb : ∀ x : Str, x ≠ "__name__" → mb x = bootBuiltins x) (hlim : s₁.heap.NoLimit) (hg : s₁.gens = #[])
    (tabs : ∀ q ∈ cs, s₁.heap.get? q.2 = some { cls := .none, data := .fields #[] } ∧ K.lookup q.2 = none ∧ PySem.W.CodeHd s₁.heap q.1 q.2)
    (mod : ∃ (bm : Addr) (ob : Obj), mg "__builtins__" = some (.ref bm) ∧ bm ≠ builtinsNs ∧ s₁.heap.get? bm = some ob ∧ ob.cls = .type "module" ∧ ob.dict = some builtinsNs ∧ ob.data = .plain)
    (ha : s₁.heap.get? a = some { cls := .type "list", data := .seq vs.toArray }) (hi : IntsAre vs ns) (hl : ns.length ≤ sizeLine) (hr : Room k callerA)
    (F : ∀ base : Heap, K.In base → base.Ns mainGlobals mg → (∀ q ∈ cs, TabB base mg q.1 q.2) → FnG P w K mg base CX k fa fd [x] sp) (hbind : ∀ (s : Shared) (u : Value), BindsTo s fd ⟨[u], []⟩ [(x, u)])
    (hsp : ∀ H : Hp, (∀ q ∈ cs, H q.2 = some (.tbl #[])) → SqL K H a (ns.map V.int) → sp [.ref a] H (fun v _ => v = .bl true) fun _ _ _ => False)
    (hCX : ∀ H e s', CX [] H s₁ (fun _ _ _ => False) e s' → False) :
    codeAny (model P w) callerA (.call (.ref fa) ⟨[.ref a], []⟩) (fun r s' => r = .ok (.ret (.bool true)) ∧ OldK s₁.heap s'.heap ∧ s'.os = s₁.os ∧ AllBare s'.gens) s₁ := by
  have tab : ∀ {T : Addr}, (∃ q ∈ cs, q.2 = T) → s₁.heap.get? T = some { cls := .none, data := .fields #[] } := fun ⟨q, hq, e⟩ => e ▸ (tabs q hq).1
  have noT : ∀ {T : Addr}, (∃ q ∈ cs, q.2 = T) → K.lookup T = none := fun ⟨q, hq, e⟩ => e ▸ (tabs q hq).2.1
  have aT : ¬ ∃ q ∈ cs, q.2 = a := fun z => by
    rw [tab z] at ha
    have := congrArg Obj.data (Option.some.inj ha)
    cases this
  -- what may be tracked at the start: the table, and the script where the written part does not hold it
  have go : ∀ H : Hp, (∀ q ∈ cs, H q.2 = some (.tbl #[])) → (∀ b u, H b = some u → (∃ q ∈ cs, q.2 = b) ∨ (b = a ∧ K.lookup a = none ∧ ∃ o xs, u = .frz o (.lst xs))) → SqL K H a (ns.map V.int) → HOk P w H s₁.heap →
      codeAny (model P w) callerA (.call (.ref fa) ⟨[.ref a], []⟩) (fun r s' => r = .ok (.ret (.bool true)) ∧ OldK s₁.heap s'.heap ∧ s'.os = s₁.os ∧ AllBare s'.gens) s₁ := by
    intro H hT hA hS hok
    -- an object that is neither the script's list nor the table stands in the base
    have free : ∀ {b : Addr} {o : Obj}, s₁.heap.get? b = some o → (∀ vs n, o.data ≠ .seq vs n) → o.data ≠ .fields #[] → H b = none := by
      intro b o e h1 h2
      cases q : H b with
      | none => rfl
      | some u =>
        rcases hA b u q with hb | ⟨rfl, _⟩
        · rw [tab hb] at e
          cases e
          exact absurd rfl h2
        · rw [ha] at e
          cases e
          exact absurd rfl (h1 _ _)
    have toBase : ∀ {b : Addr} {o : Obj}, s₁.heap.get? b = some o → H b = none → (hidT s₁.heap H).get? b = some o := fun e n => hidT_get e n
    have nsB : ∀ {b : Addr} {m : Str → Option Value}, s₁.heap.Ns b m → (hidT s₁.heap H).Ns b m := by
      rintro b m ⟨o, es, ep, e, d, r⟩
      have n : H b = none := by
        refine free e ?_ ?_
        · intro vs n z
          rw [d] at z
          cases z
        · intro z
          rw [d] at z
          cases z
      exact ⟨o, es, ep, toBase e n, d, r⟩
    have kin : K.In (hidT s₁.heap H) := by
      intro b o e
      refine toBase (KX b o e) ?_
      cases q : H b with
      | none => rfl
      | some u =>
        rcases hA b u q with hb | ⟨rfl, z, _⟩
        · rw [noT hb] at e
          cases e
        · rw [z] at e
          cases e
    have lim2 : (hidT s₁.heap H).NoLimit := by
      obtain ⟨mc, h1, h2⟩ := hlim
      exact ⟨mc, nsB h1, h2⟩
    have TB : ∀ q ∈ cs, TabB (hidT s₁.heap H) mg q.1 q.2 := by
      rintro ⟨c, T⟩ hq
      have tab' : s₁.heap.get? T = some { cls := .none, data := .fields #[] } := tab ⟨_, hq, rfl⟩
      have cd : PySem.W.CodeHd s₁.heap c T := (tabs _ hq).2.2
      have gT : mainGlobals ≠ T := fun z => by
        obtain ⟨o, es, ep, e, d, _⟩ := hns
        rw [z, tab'] at e
        cases e
        cases d
      have cd2 : PySem.W.CodeHd (hidT s₁.heap H) c T := by
        obtain ⟨o, us, fl, tf, fg, tg, inF, tx, tt, e1, r1, r2, r3, r⟩ := cd
        refine ⟨o, us, fl, tf, fg, tg, inF, tx, tt, toBase e1 (free e1 ?_ ?_), r1, r2, r3, r⟩
        · intro vs n z
          rw [r2] at z
          cases z
        · intro z
          rw [r2] at z
          cases z
          simp at r3
      have bm2 : (hidT s₁.heap H).BuiltinsAt mg T := by
        obtain ⟨bm, ob, b1, b2, b3, b4, b5, b6⟩ := mod
        have n1 : bm ≠ mainGlobals := fun z => by
          obtain ⟨o, es, ep, e, d, _⟩ := hns
          rw [z, e] at b3
          cases b3
          rw [d] at b6
          cases b6
        have n2 : bm ≠ T := fun z => by
          rw [z, tab'] at b3
          cases b3
          cases b6
        refine ⟨bm, ob, b1, b2, n1, n2, toBase b3 (free b3 ?_ ?_), b4, b5, b6⟩
        · intro vs n z
          rw [b6] at z
          cases z
        · intro z
          rw [b6] at z
          cases z
      exact ⟨cd2, bm2, gT⟩
    have e0 : Env0 P w K mg (hidT s₁.heap H) callerA [] s₁ H := by
      refine ⟨rfl, ⟨kin, nsB hns, ⟨mb, nsB hb, hbb⟩, lim2⟩, fun b o e => of_hidT e, Nat.le_of_eq (hidT_size _ _), True.intro, ?_, hok, .of_eq hg⟩
      intro b hb
      cases hb
    refine codeAny_mono ((F _ kin (nsB hns) TB).runG callerA [] s₁ H ⟨[.ref a], []⟩ [.ref a] [.ref a] _ _ rfl hr e0 (hbind s₁ (.ref a)) (.cons rfl .nil) (hsp H hT hS)) fun r s' h => ?_
    match r, h with
    | .error e, h => exact (hCX H e s' h).elim
    | .ok .next, h => exact h.elim
    | .ok .brk, h => exact h.elim
    | .ok .cont, h => exact h.elim
    | .ok (.ret u), ⟨v, H', os, bare, un, hok', rv, q⟩ =>
      have q2 : v = .bl true := q
      subst q2
      cases rv
      have grown : ∀ {T : Addr}, (∃ q ∈ cs, q.2 = T) → ∃ more : Array Value, s'.heap.get? T = some { cls := .none, data := .fields (#[] ++ more) } := by
        rintro T ⟨q, hq, rfl⟩
        obtain ⟨more, hm⟩ := un.tbls q.2 #[] (hT q hq)
        exact ⟨more, hok' q.2 _ hm⟩
      have stay : ∀ b o, (¬ ∃ q ∈ cs, q.2 = b) → s₁.heap.get? b = some o → s'.heap.get? b = some o := by
        intro b o n e
        cases q : H b with
        | none => exact un.keep b o e q (fun z => nomatch z) (fun z => nomatch z)
        | some u =>
          rcases hA b u q with z | ⟨_, _, ob, xs, rfl⟩
          · exact absurd z n
          · have z1 := (hok b _ q).1
            have z2 := (hok' b _ (un.frzs b ob _ q)).1
            rw [z1] at e
            rw [z2, e]
      refine ⟨rfl, ⟨fun b o e => ?_, fun b o e => ?_⟩, os, bare⟩
      · by_cases n : ∃ q ∈ cs, q.2 = b
        · obtain ⟨more, hg⟩ := grown n
          have tb := tab n
          obtain ⟨q, hq, rfl⟩ := n
          rw [tb] at e
          cases e
          exact .inr (.inl ⟨((tabs q hq).2.2.tab tb).isCodeTable, rfl, #[], more, rfl, hg⟩)
        · exact .inl (stay b o n e)
      · by_cases n : ∃ q ∈ cs, q.2 = b
        · obtain ⟨more, hg⟩ := grown n
          exact ⟨_, hg⟩
        · exact ⟨o, stay b o n e⟩
  have rv := vals_ints hi
  have hlen : (ns.map V.int).length ≤ sizeLine := by rw [List.length_map]; exact hl
  cases hk : K.lookup a with
  | some o =>
    have e := KX a o hk
    rw [ha] at e
    cases e
    refine go (fun b => open Classical in if ∃ q ∈ cs, q.2 = b then some (.tbl #[]) else none) (fun q hq => if_pos ⟨q, hq, rfl⟩) (fun b u z => ?_) (Or.inr ⟨_, vs.toArray, _, hk, rfl, rfl, rfl, by rw [List.size_toArray, hi.length]; exact hl, by simpa using rv⟩) fun b u z => ?_
    · try dsimp only at z
      by_cases n : ∃ q ∈ cs, q.2 = b
      · exact Or.inl n
      · rw [if_neg n] at z
        cases z
    · try dsimp only at z
      by_cases n : ∃ q ∈ cs, q.2 = b
      · rw [if_pos n] at z
        cases z
        exact tab n
      · rw [if_neg n] at z
        cases z
  | none =>
    refine go (fun b => open Classical in if ∃ q ∈ cs, q.2 = b then some (.tbl #[]) else if b = a then some (.frz { cls := .type "list", data := .seq vs.toArray } (.lst (ns.map V.int))) else none) (fun q hq => if_pos ⟨q, hq, rfl⟩) (fun b u z => ?_) (Or.inl (Or.inr ⟨_, (if_neg aT).trans (if_pos rfl)⟩)) fun b u z => ?_
    · try dsimp only at z
      by_cases n : ∃ q ∈ cs, q.2 = b
      · exact Or.inl n
      · rw [if_neg n] at z
        by_cases n2 : b = a
        · rw [if_pos n2] at z
          cases z
          exact Or.inr ⟨n2, hk, _, _, rfl⟩
        · rw [if_neg n2] at z
          cases z
    · try dsimp only at z
      by_cases n : ∃ q ∈ cs, q.2 = b
      · rw [if_pos n] at z
        cases z
        exact tab n
      · rw [if_neg n] at z
        by_cases n2 : b = a
        · rw [if_pos n2] at z
          cases z
          rw [n2]
          exact ⟨ha, hlen, vs, _, rv, ha⟩
        · rw [if_neg n2] at z
          cases z
end So

namespace K14
open PySem PySem.Spec PyProof.Rows L2 So LamX StX TL
abbrev sMoveR : Stmt := topS 61
abbrev mrN : List Str := ["_law_pen_here", "_law_row", "_law_ticks_here", "_law_near", "_law_some", "_law_due", "_law_wrong", "_law_heard_here", "_law_later", "_law_made_here", "_law_much", "_law_part"]
theorem scMoveR : FnScope mrN ["_law_pen_here", "_law_row"] (defScope sMoveR) := ⟨rfl, rfl, rfl, by decide +kernel, rfl, by decide +kernel, by decide +kernel⟩
theorem passNo {X : Cx} {P : Program} {w : World} : Passes (L2.CX P w) X (fun _ _ _ => False) := fun _ _ _ _ _ _ _ h => by
  obtain ⟨_, _, _, _, _, _, _, _, _, _, _, _, hE⟩ := h
  exact hE.elim
def OffN (p : Addr) (H H' : Hp) : Prop := ∀ b o, b ≠ p → H b = some o → (∀ ps, o ≠ .tbl ps) → H' b = some o
theorem extN_of {H H' : Hp} (s : Same H H') : ExtN H H' := fun b o e _ => s b o e
theorem lst_ne {xs : List V} : ∀ ps, HO.lst xs ≠ .tbl ps := fun ps z => nomatch z
theorem tup_ne {xs : List V} : ∀ ps, HO.tup xs ≠ .tbl ps := fun ps z => nomatch z
theorem ins_ne {C d : Addr} {fs : List (Str × V)} : ∀ ps, HO.ins C d fs ≠ .tbl ps := fun ps z => nomatch z
theorem dk_ne {kvs : List (Key × V)} : ∀ ps, HO.dK kvs ≠ .tbl ps := fun ps z => nomatch z
theorem tabs_off {T : List (Addr × Str)} {H H' : Hp} {p : Addr} {xs : List V} (hp : H p = some (.lst xs)) (t : Tabs T H) (o : Off p H H') : Tabs T H' := by
  intro y hy
  obtain ⟨ps, h1, h2, h3⟩ := t y hy
  refine ⟨ps, o _ _ (ne_of h1 hp (fun z => nomatch z)) h1, h2, fun pos cv hc => ?_⟩
  obtain ⟨c, e1, e2⟩ := h3 pos cv hc
  refine ⟨c, e1, o _ _ (fun z => ?_) e2⟩
  rw [z, hp] at e2
  cases e2
theorem tabs_same {T : List (Addr × Str)} {H H' : Hp} (t : Tabs T H) (s : Same H H') : Tabs T H' := t.ext s
theorem pen_ext {H H' : Hp} {p l : Addr} {ns : List Int} {n : Nat} {g : Int} (h : Pen H p l ns n g) (s : ExtN H H') : Pen H' p l ns n g := ⟨s _ _ h.pen lst_ne, s _ _ h.cells lst_ne, h.left⟩
theorem RowAt.ext {Cf : Str → Addr} {H H' : Hp} {a : Addr} {kind : Str} {xs : List V} (h : RowAt Cf H a kind xs) (s : ExtN H H') : RowAt Cf H' a kind xs := by
  obtain ⟨dx, fs, e, t1, ⟨tp, t2, t3⟩, t4⟩ := h
  exact ⟨dx, fs, s _ _ e ins_ne, t1, ⟨tp, t2, s _ _ t3 tup_ne⟩, t4⟩
theorem RowAt.off {Cf : Str → Addr} {H H' : Hp} {a p : Addr} {kind : Str} {xs ys : List V} (h : RowAt Cf H a kind xs) (hp : H p = some (.lst ys)) (s : Off p H H') : RowAt Cf H' a kind xs := by
  obtain ⟨dx, fs, e, t1, ⟨tp, t2, t3⟩, t4⟩ := h
  exact ⟨dx, fs, s _ _ (ne_of e hp (fun z => nomatch z)) e, t1, ⟨tp, t2, s _ _ (ne_of t3 hp (fun z => nomatch z)) t3⟩, t4⟩
theorem row_each {kind : Str} {xs : List V} (hk : kind ∈ kinds) (hf : FlatRow kind xs) : ∀ v ∈ V.str kind :: xs, (∃ z, v = .str z ∧ z.length ≤ 2000) ∨ (∃ i, v = .int i) ∨ ∃ b, v = .bl b := by
  intro v hv
  rcases List.mem_cons.mp hv with e | e
  · exact .inl ⟨kind, e, Nat.le_trans (kind_len kind hk) (by decide)⟩
  · cases hf.flat v e with
    | nam h => exact .inl ⟨_, rfl, Nat.le_trans (name_len h) (by decide)⟩
    | mom h => exact .inr (.inl ⟨_, rfl⟩)
    | tru b => exact .inr (.inr ⟨_, rfl⟩)
theorem none_bad {CN CM CS : Addr} : ∀ {l : List (V × Str)}, (∀ q ∈ l, okF q.2 q.1 = true) → badL CN CM CS l = none
  | [], _ => rfl
  | (v, f) :: r, h => by
    unfold badL
    rw [if_pos (h (v, f) List.mem_cons_self)]
    exact none_bad fun q hq => h q (List.mem_cons_of_mem _ hq)
theorem flat_bad {CN CM CS : Addr} {kind : Str} {xs : List V} (h : FlatRow kind xs) : badL CN CM CS (xs.zip (formsOf kind)) = none := none_bad fun q hq => (h.2 q hq).1
theorem wr_small {kind : Str} {xs : List V} {m least : Int} (hf : FlatRow kind xs) (m0 : -4000000000000000000000000000000 ≤ m) (m1 : m ≤ 4000000000000000000000000000000) : ∀ w ∈ wrL m least xs, w.natAbs < 2 ^ 250 := by
  intro w hw
  obtain ⟨v, hv, e⟩ := List.mem_filterMap.mp hw
  cases hf.flat v hv with
  | nam h => simp [wrI] at e
  | @mom i h =>
    by_cases c : inB least (i + m) = true
    · simp [wrI, c] at e
    · simp [wrI, c] at e
      omega
  | tru b => simp [wrI] at e
def kText {α : Type} : List α → List α → List α
  | [u], [w] => [u, w]
  | _, _ => []
/-- the methods of rows that the law calls -/
structure Mths (K : PySem.W.Frag) (P : Program) (w : World) (mg : Str → Option Value) (base : Heap) (Cf : Str → Addr) (CR CN CM CS : Addr) : Prop where
  W : Words K mg
  T : RowsC K mg Cf CR
  eq : ∃ (f : Addr) (fd : FuncData), (∀ kind ∈ kinds, PySem.W.findIn K (.ref (Cf kind)) "__eq__" = some (some (.ref f))) ∧ PySem.W.isFn K (.ref f) = true ∧ Binds K fd ["self", "other"] [] ∧ FnOk P w K mg base CX0 1 f fd ["self", "other"] (spEqR Cf)
  str : ∃ (f : Addr) (fd : FuncData), (∀ kind ∈ kinds, PySem.W.findIn K (.ref (Cf kind)) "__str__" = some (some (.ref f))) ∧ PySem.W.isFn K (.ref f) = true ∧ Binds K fd ["self"] [] ∧ FnOk P w K mg base CX0 2 f fd ["self"] (spStrR Cf)
  lsh : ∃ (f : Addr) (fd : FuncData) (fo ro : Option Value), (∀ kind ∈ kinds, PySem.W.findIn K (.ref (Cf kind)) "__lshift__" = some (some (.ref f)) ∧ PySem.W.selfFirst K (Cf kind) = true ∧ PySem.W.findIn K (.ref (Cf kind)) "__rlshift__" = some none) ∧ PySem.W.isFn K (.ref f) = true ∧ Binds K fd ["self", "ticks"] [] ∧
    PySem.W.findIn K (.type "int") "__lshift__" = some fo ∧ PySem.W.findIn K (.type "int") "__rlshift__" = some ro ∧ FnOk P w K mg base (L2.CX P w) 9 f fd ["self", "ticks"] (spLsh CN CM CS Cf)
  ren : ∃ (f : Addr) (fd : FuncData), (∀ kind ∈ kinds, Meth K (Cf kind) "renamed" f) ∧ Binds K fd ["self", "names"] [] ∧ KBinds K fd ["self", "names"] ["names"] kText kText ∧ FnOk P w K mg base (L2.CX P w) 9 f fd ["self", "names"] (spRen CN CM CS Cf)
/-- two like rows, compared -/
def rLike (Cf : Str → Addr) (K : PySem.W.Frag) : R2 := fun x y H Q => ∃ kind, kind ∈ kinds ∧ rOwn (Cf kind) K (spEqR Cf) (fun _ _ _ => False) id x y H Q
section
variable {X : Cx} {Cf : Str → Addr} {f : Addr} {fd : FuncData}
theorem cr_strA (G : FnOk X.prog X.w X.K X.mg X.base CX0 2 f fd ["self"] (spStrR Cf)) (s : ∀ kind ∈ kinds, PySem.W.findIn X.K (.ref (Cf kind)) "__str__" = some (some (.ref f))) (i : PySem.W.isFn X.K (.ref f) = true) (b : Binds X.K fd ["self"] []) (hr : Room 4 X.A) :
    CallR X (.type "str") (fun xs H Q => ∃ kind, kind ∈ kinds ∧ ∃ a dx fs, xs = [.ref a] ∧ H a = some (.ins (Cf kind) dx fs) ∧ spStrR Cf [.ref a] H (fun v H' => ∃ t : Str, v = .str t ∧ Q (.str t) H') (fun _ _ _ => False)) :=
  cr_ex fun kind hk => call_strOwn (C := Cf kind) G (s kind hk) i b pass0 hr
theorem op_eqA (G : FnOk X.prog X.w X.K X.mg X.base CX0 1 f fd ["self", "other"] (spEqR Cf)) (s : ∀ kind ∈ kinds, PySem.W.findIn X.K (.ref (Cf kind)) "__eq__" = some (some (.ref f))) (i : PySem.W.isFn X.K (.ref f) = true) (b : Binds X.K fd ["self", "other"] []) (hr : Room 1 X.A) :
    OpR X (compareOp .Eq) (rLike Cf X.K) := op_ex fun kind hk => op_eqOwn (C := Cf kind) G (s kind hk) i b pass0 hr
theorem op_lshA {CN CM CS : Addr} {E : XK} {fo ro : Option Value} (G : FnOk X.prog X.w X.K X.mg X.base (L2.CX X.prog X.w) 9 f fd ["self", "ticks"] (spLsh CN CM CS Cf)) (s : ∀ kind ∈ kinds, PySem.W.findIn X.K (.ref (Cf kind)) "__lshift__" = some (some (.ref f)) ∧ PySem.W.selfFirst X.K (Cf kind) = true ∧ PySem.W.findIn X.K (.ref (Cf kind)) "__rlshift__" = some none)
    (i : PySem.W.isFn X.K (.ref f) = true) (b : Binds X.K fd ["self", "ticks"] []) (h1 : PySem.W.findIn X.K (.type "int") "__lshift__" = some fo) (h2 : PySem.W.findIn X.K (.type "int") "__rlshift__" = some ro) (hx : Passes (L2.CX X.prog X.w) X E) (hr : Room 9 X.A) :
    OpR X (binaryOp .LShift) (fun x y H Q => ∃ kind, kind ∈ kinds ∧ ∃ (a dx : Addr) (fs : List (Str × V)) (n : Int), x = .ref a ∧ y = .int n ∧ H a = some (.ins (Cf kind) dx fs) ∧ spLsh CN CM CS Cf [.ref a, .int n] H Q E) :=
  op_ex fun kind hk => op_lshOwn (C := Cf kind) G (s kind hk).1 i b hx hr (s kind hk).2.1 (s kind hk).2.2 h1 h2
end
section
variable {P : Program} {w : World} {K : PySem.W.Frag} {mg : Str → Option Value} {base : Heap}
theorem rLike_of {Cf : Str → Addr} {CR a b : Addr} {H : Hp} {kind : Str} {xs : List V} {Q : VK} (T : RowsC K mg Cf CR) (hk : kind ∈ kinds) (hf : FlatRow kind xs) (A : RowAt Cf H a kind xs) (B : RowAt Cf H b kind xs) (h : Q (.bl true) H) : rLike Cf K (.ref a) (.ref b) H Q := by
  obtain ⟨d1, fs1, h1, t1⟩ := id A
  obtain ⟨d2, fs2, h2, t2⟩ := id B
  exact ⟨kind, hk, a, d1, _, .ref (Cf kind), rfl, h1, .base (.ins h2 (T.c kind hk).cl (T.ha kind hk) T.hn T.htk (T.hm kind hk)), by simp [PySem.W.notFirst], a, b, kind, xs, rfl, hk, hf, A, B, _, rfl, h⟩
def spMoveR (T : List (Addr × Str)) : Sp := fun vs H Q _ => ∃ (p l r : Addr) (ns : List Int) (n : Nat) (g : Int) (kind : Str) (xs : List V), vs = [.ref p, .ref r] ∧ Pen H p l ns n g ∧ n < 900000 ∧ H r = some (.tup (.str kind :: xs)) ∧ kind ∈ kinds ∧ FlatRow kind xs ∧ Tabs T H ∧
  ∀ (n' : Nat) (g' : Int) (H' : Hp), n' ≤ n + 3 → OffN p H H' → Pen H' p l ns n' g' → Tabs T H' → Q (.bl true) H'
theorem ok_moveR {T : List (Addr × Str)} {Cf : Str → Addr} {CT CN CM CS CO CR f c1 P1 fP fD fM fMo fX fH : Addr} {fd fdP fdD fdM fdMo fdX fdH : FuncData} (F : Fun K "_law_move_right" "_law_move_right" sMoveR f fd) (hcode : fd.code = .ref c1) (TB : TabB base mg c1 P1)
    (hT1 : ∀ n f' c', (P1, (envOfC "_law_move_right" (defScope sMoveR) n f' c').qual ++ "<lambda>") ∈ T) (hT2 : ∀ n f' c', ∀ q ∈ T, q.1 = P1 → q.2 = (envOfC "_law_move_right" (defScope sMoveR) n f' c').qual ++ "<lambda>")
    (M : Mths K P w mg base Cf CR CN CM CS) (R : HrL K mg CT CN CM CO) (mp : mg "repr" = none)
    (FP : Fun K "_law_pick" "_law_pick" sPick fP fdP) (bP : Binds K fdP ["_law_pen_here", "_law_some"] []) (gP : mg "_law_pick" = some (.ref fP)) (GP : FnOk P w K mg base CX0 2 fP fdP ["_law_pen_here", "_law_some"] (spPick K))
    (FD : Fun K "_law_draw" "_law_draw" sDraw fD fdD) (bD : Binds K fdD ["_law_pen_here", "_law_many"] []) (gD : mg "_law_draw" = some (.ref fD)) (GD : FnOk P w K mg base CX0 1 fD fdD ["_law_pen_here", "_law_many"] spDraw)
    (FM : Fun K "_law_made" "_law_made" sMade fM fdM) (bM : Binds K fdM ["_law_row"] []) (gM : mg "_law_made" = some (.ref fM)) (GM : FnOk P w K mg base (L2.CX P w) 8 fM fdM ["_law_row"] (spMade CN CM CS Cf))
    (FMo : Fun K "_law_moved" "_law_moved" sMoved fMo fdMo) (bMo : Binds K fdMo ["_law_row", "_law_much"] []) (gMo : mg "_law_moved" = some (.ref fMo)) (GMo : FnOk P w K mg base CX0 1 fMo fdMo ["_law_row", "_law_much"] spMoved)
    (FX : Fun K "_law_text" "_law_text" sText fX fdX) (bX : Binds K fdX ["_law_row"] []) (gX : mg "_law_text" = some (.ref fX)) (GX : FnOk P w K mg base CX0 1 fX fdX ["_law_row"] spText)
    (FH : Fun K "_law_heard" "_law_heard" sHeard fH fdH) (bH0 : Binds K fdH ["_law_ask"] []) (gH : mg "_law_heard" = some (.ref fH)) :
    FnG P w K mg base CX0 12 f fd ["_law_pen_here", "_law_row"] (spMoveR T) := by
  obtain ⟨f1, fd1, s1, i1, b1, G1⟩ := M.eq
  obtain ⟨f2, fd2, s2, i2, b2, G2⟩ := M.str
  obtain ⟨f3, fd3, fo3, ro3, s3, i3, b3, h31, h32, G3⟩ := M.lsh
  obtain ⟨ocH, odH, kVH, docH, pmH, anH, cdvH, ctH, oslH, efd, lkH, hcH⟩ := FH.ex
  subst efd
  have bH := bH0
  refine fnG_ofC F hcode scMoveR (fun vs H Q E h => ?_) (fun A outer s H vs Q E hg hr h => ?_)
  · obtain ⟨_, _, _, _, _, _, _, _, rfl, _⟩ := h
    rfl
  · obtain ⟨p, l, r, ns, n, g, kind, xs, rfl, hp, hn, hx, hk, hf, hT, q⟩ := h
    have hr1 : Room 1 _ := hr.mono (by decide)
    have hr2 : Room 2 _ := hr.mono (by decide)
    have hr8 : Room 8 _ := hr.mono (by decide)
    have hr9 : Room 9 _ := hr.mono (by decide)
    have EQ : ∀ {X : Cx}, X.K = K → True := fun _ => trivial
    refine ⟨_, pss_cons (ps_setLc (i := 2) (own := [("_law_part", 11)]) (g := gName 11) rfl scMoveR.nd rfl rfl (sw_true rfl rfl rfl (by decide +kernel)) (pi_tup (pv 1)) (blkOk_by (N := mrN) (sc := defScope sMoveR) (by decide +kernel))
          (fun _ _ _ _ _ => pg_name (i := 11) scMoveR.nd rfl (Or.inl rfl)) (fun _ _ _ _ _ => pts_one (PW.pt (pw_and (pt_val (pe_callB (isiK (K := K) rfl) (by rfl) M.W.isi (by decide +kernel) (pa_cons (pv 11) (pa_cons (pe_bltn (v := .ty "int") (by rfl) M.W.int (by decide +kernel) rfl) pa_nil)))) (pw_and1 (pt_not (pt_val (pe_callB (isiK (K := K) rfl) (by rfl) M.W.isi (by decide +kernel) (pa_cons (pv 11) (pa_cons (pe_bltn (v := .ty "bool") (by rfl) M.W.bool (by decide +kernel) rfl) pa_nil)))))))))
          (fun _ _ _ _ _ => pv 11))
      (pss_cons (ps_cut (ps_set (i := 3) scMoveR.nd rfl (.inl rfl) (pe_ifExp (pt_cmpR (op_eqNil hr.units0) (pv 2) (pe_lst pa_nil) (nomark _)) pe_int (pe_call GP hr2 (by rfl) gP FP.kp bP .nil pass0 (pa_cons (pv 0) (pa_cons (pv 2) pa_nil))))))
      (pss_cons (ps_set (i := 4) scMoveR.nd rfl (.inl rfl) (pe_lst (pa_cons pe_int (pa_cons pe_int (pa_cons (pe_un un_neg pe_int) (pa_cons (pe_op op_sub pe_int (pv 3)) (pa_cons (pe_op op_sub pe_int (pv 3)) (pa_cons (pe_op op_sub (pe_op op_sub pe_int (pv 3)) pe_int) (pa_cons (pe_op op_sub (pe_op op_pow pe_int pe_int) (pv 3)) (pa_cons (pe_op op_add (pe_op op_sub (pe_op op_pow pe_int pe_int) (pv 3)) pe_int)
          (pa_cons (pe_call GD hr1 (by rfl) gD FD.kp bD .nil pass0 (pa_cons (pv 0) (pa_cons (pe_op op_pow pe_int pe_int) pa_nil))) pa_nil)))))))))))
      (pss_cons (ps_set (i := 10) scMoveR.nd rfl (.inr rfl) (pe_call GP hr2 (by rfl) gP FP.kp bP .nil pass0 (pa_cons (pv 0) (pa_cons (pv 4) pa_nil))))
      (pss_cons (ps_set (i := 9) scMoveR.nd rfl (.inr rfl) (pe_call GM hr8 (by rfl) gM FM.kp bM .nil passNo (pa_cons (pv 1) pa_nil)))
      (pss_cons (ps_asg (pe_call GMo hr1 (by rfl) gMo FMo.kp bMo .nil pass0 (pa_cons (pv 1) (pa_cons (pv 10) pa_nil))) (pg_tup rfl (pgs_cons (pg_name (i := 5) scMoveR.nd rfl (Or.inl rfl)) (pgs_cons (pg_name (i := 6) scMoveR.nd rfl (Or.inl rfl)) pgs_nil))))
      (pss_cons (ps_cut (ps_set (i := 7) scMoveR.nd rfl (.inl rfl) (pe_lamcall (T := T) (TT := TTL CN CM CO) (t := _) (k := 9) (by rfl) gH FH.kp lkH hcH bH scHeard rfl (Or.inl rfl) (heard_gives R) TB rfl (hT1 _ _ _) (hT2 _ _ _) hr
            (lamS_by (sc := defScope sMoveR) (by decide +kernel)) rfl (fun _ _ _ _ _ => rfl) (fun A outer s H E f c' hr' => pe_callTy (cr_strA G2 s2 i2 b2 (hr'.mono (by decide))) (by rfl) M.W.str (by decide +kernel) (pa_cons (pe_op (op_lshA G3 s3 i3 b3 h31 h32 (passes_call (takes_of rfl rfl rfl rfl) (fun _ _ _ _ h => h)) hr') (pv 9) (pv 10)) pa_nil)))))
      (pss_cons (ps_cut (ps_if (pt_cmpR op_ne (pe_callB (call_reprG hg hr.units) (by rfl) mp (by decide +kernel) (pa_cons (pv 7) pa_nil)) (pe_callB (call_reprG hg hr.units) (by rfl) mp (by decide +kernel) (pa_cons (pe_ifExp (pt_cmpR op_isN (pv 6) pe_non (nomark _)) (pe_tup (pa_cons pe_str (pa_cons (pe_call GX hr1 (by rfl) gX FX.kp bX .nil pass0 (pa_cons (pv 5) pa_nil)) pa_nil))) (pe_tup (pa_cons pe_str (pa_cons (pv 6) pa_nil)))) pa_nil)) (nomark _)) (pss_one (ps_ret pe_bl)) pss_nil))
      (pss_cons (ps_cut (ps_if (pt_cmpR op_isN (pv 6) pe_non (nomark _)) (pss_cons (ps_set (i := 8) scMoveR.nd rfl (.inl rfl) (pe_op (op_lshA G3 s3 i3 b3 h31 h32 passNo hr9) (pv 9) (pv 10)))
          (pss_one (ps_if (PW.pt (pw_or (pt_not (pt_cmpR (op_eqA G1 s1 i1 b1 hr1) (pv 8) (pe_call GM hr8 (by rfl) gM FM.kp bM .nil passNo (pa_cons (pv 5) pa_nil)) (nomark _))) (pw_or1 (pt_not (pt_val (pe_callB call_isi (by rfl) M.W.isi (by decide +kernel) (pa_cons (pv 8) (pa_cons (pe_glob (v := .ref CR) rfl M.T.gR rfl) pa_nil)))))))) (pss_one (ps_ret pe_bl)) pss_nil))) pss_nil))
      (pss_one (ps_ret (pe_cmpR (op_eqA G1 s1 i1 b1 hr1) (pv 9) (pe_call GM hr8 (by rfl) gM FM.kp bM .nil passNo (pa_cons (pv 1) pa_nil)) (nomark _)))))))))))), ?_⟩
    have hfl := hf.flat
    have hl4 : xs.length ≤ 4 := by rw [hf.1]; exact forms_len kind hk
    have hsz := sizeLine_eq
    have hgv : ∀ (G : Hp), ∀ y ∈ xs, ∃ T, Gv G y T := fun G y hy => (hfl y hy).gv G
    have hbad : badL CN CM CS (xs.zip (formsOf kind)) = none := flat_bad hf
    -- the moments of the row
    have each : ∀ v ∈ V.str kind :: xs, (∃ z, v = .str z ∧ z.length ≤ 2000) ∨ (∃ i, v = .int i) ∨ ∃ b, v = .bl b := row_each hk hf
    have hlen : ∀ k, (((V.str kind :: xs).take k).filter isI).length < sizeLine := fun k => by
      have h1 := List.length_filter_le isI ((V.str kind :: xs).take k)
      have h2 : ((V.str kind :: xs).take k).length ≤ (V.str kind :: xs).length := List.length_take_le' _ _
      rw [List.length_cons] at h2
      omega
    refine ⟨_, rfl, r, rfl, ⟨_, SqT.of hx⟩, fun D hD => ?_⟩
    refine lc_it walk_tup (fun k H' => Same H H' ∧ H' D = some (.lst (((V.str kind :: xs).take k).filter isI))) ⟨Same.over (Same.refl H) hD, upd_same⟩ (fun _ _ _ y => SqT.of (y.1 _ _ hx)) ?_ ?_
    · rintro k x H2 H3 hk2 ⟨s2, hDk⟩ ⟨rfl, hxk⟩
      have et : (V.str kind :: xs).take (k + 1) = (V.str kind :: xs).take k ++ [x] := by rw [List.take_add_one, hxk]; rfl
      rw [et, List.filter_append]
      rcases each x (List.mem_of_getElem? hxk) with ⟨z, rfl, hz⟩ | ⟨i, rfl⟩ | ⟨b, rfl⟩
      · refine ⟨rfl, ?_⟩
        refine ⟨_, rfl, _, _, _, _, false, rfl, .ty "int", (Gv.str z hz).ty, kit_ty (by decide +kernel), _, rfl, iteF (iteF ⟨s2, ?_⟩)⟩
        rw [hDk]
        simp [isI]
      · refine ⟨rfl, ?_⟩
        refine ⟨_, rfl, _, _, _, _, true, rfl, .ty "int", (Gv.int i).ty, kit_int_int, _, rfl, iteT ?_⟩
        refine ⟨_, rfl, _, _, _, _, false, rfl, .ty "bool", .base (.int i), kit_int_bool, _, rfl, iteT ⟨_, rfl, _, hDk, hlen k, Same.over s2 hD, ?_⟩⟩
        exact upd_same
      · refine ⟨rfl, ?_⟩
        refine ⟨_, rfl, _, _, _, _, true, rfl, .ty "int", (Gv.bl b).ty, kit_ty (by decide +kernel), _, rfl, iteT ?_⟩
        refine ⟨_, rfl, _, _, _, _, true, rfl, .ty "bool", .base (.bl b), kit_bool_bool, _, rfl, iteF ⟨s2, ?_⟩⟩
        rw [hDk]
        simp [isI]
    rintro H1 ⟨s1, hD1⟩
    rw [List.take_length, List.filter_cons_of_neg (by simp [isI])] at hD1
    have nDp : D ≠ p := hp.ne hD
    have hx1 := s1 _ _ hx
    have pen1 := hp.same s1
    have t1 := tabs_same hT s1
    -- the one that is near
    refine ⟨fun σ G => ∃ (j : Int) (n1 : Nat) (g1 : Int), σ = [some (.ref p), some (.ref r), some (.ref D), some (.int j), none, none, none, none, none, none, none, none] ∧ 0 ≤ j ∧ j ≤ 1000000000000000000000000000000 ∧ n1 ≤ n + 1 ∧ Pen G p l ns n1 g1 ∧ Off p H1 G, ?_, ?_⟩
    · refine ⟨_, rfl, by show 0 ≤ sizeLine; decide, fun nl hnl => ?_⟩
      have s2 := same_upd0 (o := .lst []) hnl
      refine ⟨D, nl, _, rfl, rfl, SqL.of (s2 _ _ hD1), SqL.of upd_same, _, rfl, ?_⟩
      cases e : xs.filter isI with
      | nil => exact iteT ⟨0, n, g, rfl, by decide, by decide, by omega, pen1.same s2, offS s2⟩
      | cons y ys =>
        refine iteF ?_
        have hD2 := s2 _ _ hD1
        have hl1 : (xs.filter isI).length ≤ 4 := Nat.le_trans (List.length_filter_le _ _) hl4
        refine ⟨_, rfl, _, rfl, p, l, ns, n, g, _, rfl, pen1.same s2, by omega, .inl ⟨D, _, rfl, nDp, hD2, by rw [e, List.length_cons]; omega, by omega, fun v n3 g3 H3 hv hn3 off3 pen3 => ?_⟩⟩
        obtain ⟨hv1, hv2⟩ := List.mem_filter.mp hv
        cases hfl v hv1 with
        | nam h => cases hv2
        | @mom i h => exact ⟨i, n3, g3, rfl, h.1, h.2, by omega, pen3, (offS s2).trans off3⟩
        | tru b => cases hv2
    rintro σ H2 ⟨j, n2, g2, rfl, j0, j1, hn2, pen2, off2⟩
    have nrp : r ≠ p := ne_of hx hp.pen (fun z => nomatch z)
    have hx2 := off2 _ _ nrp hx1
    have t2 := tabs_off pen1.pen t1 off2
    have offH2 : Off p H H2 := (offS s1).trans off2
    -- how much
    refine ⟨_, rfl, _, rfl, _, _, rfl, rfl, _, rfl, _, _, rfl, rfl, _, rfl, _, _, rfl, rfl, _, _, rfl, rfl, _, _, rfl, rfl, ⟨by decide, by decide, by decide⟩, _, rfl, _, _, rfl, rfl, _, _, rfl, rfl, ⟨by decide, by decide, by decide⟩, _, rfl, _, _, rfl, rfl, _, _, rfl, rfl, _, rfl, _, _, rfl, rfl, ⟨by decide, by decide, by decide⟩, p, l, ns, n2, g2, _, rfl, pen2, by omega, by decide +kernel, by decide +kernel, fun d n3 g3 H3 d0 d1 hn3 off3 pen3 => ?_⟩
    replace d1 : d < 1000000000000000000000000000000 := d1
    refine ⟨by show 9 ≤ sizeLine; decide, fun s4 h4 => ?_⟩
    have key : ∀ v ∈ [V.int 0, .int 1, .int (-1), .int (0 - j), .int (1 - j), .int (0 - j - 1), .int ((10 : Int) ^ Int.toNat 30 - j), .int ((10 : Int) ^ Int.toNat 30 - j + 1), .int d], ∃ m, v = .int m ∧ -4000000000000000000000000000000 ≤ m ∧ m ≤ 4000000000000000000000000000000 := by
      have e30 : ((10 : Int) ^ Int.toNat 30) = 1000000000000000000000000000000 := by decide +kernel
      rw [e30]
      intro v hv
      simp only [List.mem_cons, List.not_mem_nil, or_false] at hv
      rcases hv with e | e | e | e | e | e | e | e | e <;> exact ⟨_, e, by omega, by omega⟩
    generalize hL9 : [V.int 0, .int 1, .int (-1), .int (0 - j), .int (1 - j), .int (0 - j - 1), .int ((10 : Int) ^ Int.toNat 30 - j), .int ((10 : Int) ^ Int.toNat 30 - j + 1), .int d] = L9 at key
    have hz9 : L9.length = 9 := by rw [← hL9]; rfl
    have s4' := same_upd0 (o := .lst L9) h4
    have hs4 : (upd H3 s4 (.lst L9)) s4 = some (.lst L9) := upd_same
    have np4 := pen3.ne h4
    have pen4' := pen3.same s4'
    have hx4' := s4' _ _ (off3 _ _ nrp hx2)
    have t4' := tabs_same (tabs_off pen2.pen t2 off3) s4'
    have offH4' : Off p H (upd H3 s4 (.lst L9)) := (offH2.trans off3).trans (offS s4')
    subst hL9
    refine ⟨_, rfl, _, rfl, p, l, ns, n3, g3, _, rfl, pen4', by omega, .inl ⟨s4, _, rfl, np4, hs4, by show 0 < 9; decide, by show 9 ≤ 1000; decide, fun v n4 g4 H4 hv hn4 off4 pen4 => ?_⟩⟩
    obtain ⟨m, rfl, m0, m1⟩ := key v hv
    have hx4 := off4 _ _ nrp hx4'
    have t4 := tabs_off pen4'.pen t4' off4
    have offH4 := offH4'.trans off4
    clear key hs4 s4' np4 pen4' hx4' t4' offH4' hv hz9
    -- the row, moved
    refine ⟨_, rfl, r, kind, xs, rfl, hx4, hk, hf.1, hgv H4, fun _ H5 a s5 A5 => ?_, fun C fl v e => by rw [hbad] at e; cases e⟩
    have hx5 := s5 _ _ hx4
    have pen5 := pen4.same s5
    have t5 := tabs_same t4 s5
    have offH5 := offH4.trans (offS s5)
    refine ⟨_, rfl, _, rfl, r, kind, xs, m, rfl, hx5, hk, hf, fun H6 tt du s6 hdu htt => ?_⟩
    have A6 := A5.same s6
    have hx6 := s6 _ _ hx5
    have pen6 := pen5.same s6
    have t6 := tabs_same t5 s6
    have offH6 := offH5.trans (offS s6)
    refine ⟨tt, _, rfl, SqT.of htt, rfl, _, _, rfl, _, _, rfl, rfl, ?_⟩
    clear hx5 hx4 pen5 pen4 t5 t4 offH5 offH4 A5 s5 s6 off4 h4 off3 pen3 hx2 pen2 t2 offH2 off2 hx1 pen1 t1 hD1
    -- what is heard
    obtain ⟨dx, fs, ha6, told6⟩ := id A6
    have hmv : mvL m (xs.zip (formsOf kind)) = xs.map (addV m) := mvL_eq hk hf
    have hbd := bad_moved (CN := CN) (CM := CM) (CS := CS) (n := m) hk hf
    have hml : (xs.map (addV m)).length = (formsOf kind).length := by rw [List.length_map]; exact hf.1
    have hsm : ∀ w ∈ wrL m (leastOf kind) xs, w.natAbs < 2 ^ 250 := wr_small hf m0 m1
    generalize hws : wrL m (leastOf kind) xs = ws at hbd htt hsm
    generalize xs.map (addV m) = ys at hmv hbd hdu hml
    refine ⟨fun σ G => ∃ (rr : Addr) (wd : Str) (u : V), σ = [some (.ref p), some (.ref r), some (.ref D), some (.int j), some (.ref s4), some (.ref du), some (firstV ws), some (.ref rr), none, some (.ref a), some (.int m), none] ∧ ExtN H6 G ∧ Tabs T G ∧ G rr = some (.tup [.str wd, u]) ∧ ((ws = [] ∧ FlatRow kind ys ∧ wd = "told" ∧ u = .str (rowText kind ys)) ∨ ∃ w wr, ws = w :: wr ∧ wd = "moment" ∧ u = .int w), ?_, ?_⟩
    · refine ⟨t6, fun H7 x7 t7 => ?_⟩
      have A7 := A6.ext x7
      have ha7 := x7 _ _ ha6 ins_ne
      refine ⟨_, rfl, _, rfl, kind, hk, a, dx, fs, m, rfl, rfl, ha7, a, m, kind, xs, rfl, hk, hf, A7, ?_⟩
      rw [hmv]
      refine ⟨fun e H8 b s8 B8 => ?_, fun C fl v e d H8 s8 ed => ?_⟩
      · have hf' := row_stands hk hml e
        rw [hbd] at e
        cases ws with
        | cons _ _ => cases e
        | nil =>
          obtain ⟨dx2, fs2, hb, _⟩ := id B8
          refine ⟨kind, hk, b, dx2, fs2, rfl, hb, b, kind, ys, rfl, hk, hf', B8, fun H9 s9 => ⟨_, rfl, fun tt2 ht2 => ?_⟩⟩
          have s10 := (s8.trans s9).trans (same_upd0 (o := .tup [.str "told", .str (rowText kind ys)]) ht2)
          exact ⟨tt2, "told", _, rfl, x7.trans (extN_of s10), tabs_same t7 s10, upd_same, .inl ⟨rfl, hf', rfl, rfl⟩⟩
      · rw [hbd] at e
        cases ws with
        | nil => cases e
        | cons w0 wr =>
          injection e with e
          injection e with e1 e2
          injection e2 with e2 e3
          subst e1 e2 e3
          refine ⟨"moment", CM, "moment", .int w0, d, .inr (.inl ⟨rfl, rfl, rfl⟩), rfl, rfl, ed, fun H9 rr s9 hr9 => ?_⟩
          have s10 := s8.trans s9
          exact ⟨rr, "moment", _, rfl, x7.trans (extN_of s10), tabs_same t7 s10, hr9, .inr ⟨w0, wr, rfl, rfl, rfl⟩⟩
    rintro _ G ⟨rr, wd, u, rfl, xG, tG, hrr, hcase⟩
    have A7 := A6.ext xG
    have pen7 := pen_ext pen6 xG
    have hx7 := xG _ _ hx6 tup_ne
    have hdu7 := xG _ _ hdu tup_ne
    have off7 : OffN p H G := fun b o nb e nt => xG _ _ (offH6 b o nb e) nt
    obtain ⟨du', okw, oku, hu⟩ : ∃ d : PyData, OkD 9000 12 (.str wd) ∧ OkD 9000 12 d ∧ ∀ G', Dd K G' u d := by
      rcases hcase with ⟨_, hf', rfl, rfl⟩ | ⟨w0, wr, e, rfl, rfl⟩
      · exact ⟨.str _, word_ok (by decide +kernel), text_ok hk hf', fun _ => .str _⟩
      · exact ⟨.int w0, word_ok (by decide +kernel), (OkD.int (hsm w0 (by rw [e]; exact List.mem_cons_self))).mono (by decide) (by decide), fun _ => .int _⟩
    obtain ⟨k1, k2, k3⟩ := pair_ok okw oku
    refine ⟨fun σ G2 => σ = [some (.ref p), some (.ref r), some (.ref D), some (.int j), some (.ref s4), some (.ref du), some (firstV ws), some (.ref rr), none, some (.ref a), some (.int m), none] ∧ Same G G2, ?_, ?_⟩
    · refine ⟨_, rfl, _, _, rfl, .tup (SqT.of hrr) (.cons (.str _) (.cons (hu _) .nil)), k1, k2, k3, ?_⟩
      rcases hcase with ⟨rfl, hf', rfl, rfl⟩ | ⟨w0, wr, rfl, rfl, rfl⟩
      · refine ⟨_, rfl, rfl, _, rfl, ite2 (fun _ => ?_) (fun e => absurd (decide_eq_true rfl) e)⟩
        refine ⟨_, rfl, du, kind, ys, rfl, hdu7, hk, hf', fun G2 s2 => ⟨by show 2 ≤ sizeLine; decide, fun r2 hr2 => ?_⟩⟩
        have s3 := s2.trans (same_upd0 (o := .tup [.str "told", .str (rowText kind ys)]) hr2)
        exact ⟨_, _, rfl, .tup (SqT.of upd_same) (.cons (.str _) (.cons (hu _) .nil)), k1, k2, k3, rfl, _, rfl, ite2 (fun e => absurd e (by simp)) (fun _ => ⟨rfl, s3⟩)⟩
      · refine ⟨_, rfl, rfl, _, rfl, ite2 (fun e => nomatch (of_decide_eq_true e)) (fun _ => ?_)⟩
        refine ⟨_, rfl, by show 2 ≤ sizeLine; decide, fun r2 hr2 => ?_⟩
        have s3 := (same_upd0 (o := .tup [.str "moment", .int w0]) hr2)
        exact ⟨_, _, rfl, .tup (SqT.of upd_same) (.cons (.str _) (.cons (hu _) .nil)), k1, k2, k3, rfl, _, rfl, ite2 (fun e => absurd e (by simp)) (fun _ => ⟨rfl, s3⟩)⟩
    rintro _ G2 ⟨rfl, s8⟩
    refine ⟨fun σ G3 => ∃ x8, σ = [some (.ref p), some (.ref r), some (.ref D), some (.int j), some (.ref s4), some (.ref du), some (firstV ws), some (.ref rr), x8, some (.ref a), some (.int m), none] ∧ Same G2 G3, ?_, ?_⟩
    · rcases hcase with ⟨rfl, hf', rfl, rfl⟩ | ⟨w0, wr, rfl, rfl, rfl⟩
      · refine ⟨_, rfl, rfl, _, rfl, ite2 (fun _ => ?_) (fun e => absurd (decide_eq_true rfl) e)⟩
        have A8 := A7.same s8
        obtain ⟨dx8, fs8, ha8, _⟩ := id A8
        refine ⟨_, rfl, _, rfl, kind, hk, a, dx8, fs8, m, rfl, rfl, ha8, a, m, kind, xs, rfl, hk, hf, A8, ?_⟩
        rw [hmv]
        refine ⟨fun _ G3 b s9 B9 => ?_, fun C fl v e => by rw [hbd] at e; cases e⟩
        have hdu9 := s9 _ _ (s8 _ _ hdu7)
        refine ⟨_, rfl, _, rfl, du, kind, ys, rfl, hdu9, hk, hml, (fun y hy => (hf'.flat y hy).gv _), fun _ G4 b2 s10 B10 => ?_, fun C fl v e => by rw [hbd] at e; cases e⟩
        have B9' := B9.same s10
        refine rLike_of M.T hk hf' B9' B10 ⟨_, rfl, iteF ?_⟩
        obtain ⟨dx9, fs9, hb9, _⟩ := id B9'
        refine ⟨_, rfl, _, _, _, _, true, rfl, .own CR, .base (.ins hb9 (M.T.c kind hk).cl (M.T.ha kind hk) M.T.hn M.T.htk (M.T.hm kind hk)), M.T.kR kind hk, _, rfl, iteF ?_⟩
        exact ⟨_, rfl, s9.trans s10⟩
      · exact ⟨_, rfl, rfl, _, rfl, ite2 (fun e => nomatch (of_decide_eq_true e)) (fun _ => ⟨_, rfl, Same.refl _⟩)⟩
    rintro _ G3 ⟨x8, rfl, s9⟩
    have sG := s8.trans s9
    refine ⟨_, rfl, _, rfl, r, kind, xs, rfl, sG _ _ hx7, hk, hf.1, hgv _, fun _ G4 b s10 B => ?_, fun C fl v e => by rw [hbad] at e; cases e⟩
    have s11 := sG.trans s10
    exact rLike_of M.T hk hf (A7.same s11) B (q n4 g4 G4 (by omega) (fun b o nb e nt => s11 _ _ (off7 b o nb e nt)) (pen7.same s11) (tabs_same tG s11))
end
end K14

/-! how long what repr tells of a dict is -/
namespace So
open PySem PySem.Spec PyProof.Rows L2
theorem okKv {n m : Nat} : ∀ {ds : List (PyData × PyData)}, (∀ d ∈ ds, OkD n m d.1 ∧ OkD n m d.2) → PyData.showableKv ds = true ∧ PyData.depthKv ds ≤ m + 1 ∧ ((PyData.shownKv ds).map (·.length)).sum ≤ (2 * n + 2) * ds.length
  | [], _ => ⟨rfl, by simp [PyData.depthKv], by simp [PyData.shownKv]⟩
  | (k, v) :: r, h => by
    have ih := okKv (ds := r) fun x hx => h x (List.mem_cons_of_mem _ hx)
    obtain ⟨h1, h2⟩ := h (k, v) List.mem_cons_self
    refine ⟨?_, ?_, ?_⟩
    · simp only [PyData.showableKv, h1.show', h2.show', ih.1, Bool.and_self]
    · simp only [PyData.depthKv]
      have : k.depth ≤ m := h1.deep
      have : v.depth ≤ m := h2.deep
      have := ih.2.1
      omega
    · simp only [PyData.shownKv, List.map_cons, List.sum_cons, List.length_cons]
      have : k.shown.length ≤ n := h1.len
      have : v.shown.length ≤ n := h2.len
      have := ih.2.2
      have e : (PyData.shown k ++ (": " : Str) ++ PyData.shown v).length = (PyData.shown k).length + 2 + (PyData.shown v).length := by
        rw [Str.length_append, Str.length_append]
        rfl
      rw [e, Nat.mul_succ]
      omega
theorem OkD.dict {n m : Nat} {ds : List (PyData × PyData)} (h : ∀ d ∈ ds, OkD n m d.1 ∧ OkD n m d.2) : OkD ((2 * n + 2) * ds.length + 2 * ds.length + 3) (m + 2) (.dict ds) := by
  have a := okKv h
  refine ⟨by simp only [PyData.showable]; exact a.1, by simp only [PyData.depth]; have := a.2.1; omega, ?_⟩
  have h2 := dictText_len_le (PyData.shownKv ds)
  have h3 := PyData.shownKv_length ds
  have := a.2.2
  simp only [PyData.shown]
  omega
end So

namespace K14
open PySem PySem.Spec PyProof.Rows L2 So LamX StX TL
abbrev sNames : Stmt := topS 62
abbrev nmN : List Str := ["_law_pen_here", "_law_row", "_law_calls", "_law_word", "_law_way"]
theorem scNames : FnScope nmN ["_law_pen_here", "_law_row"] (defScope sNames) := ⟨rfl, rfl, rfl, by decide +kernel, rfl, by decide +kernel, by decide +kernel⟩
/-- the pen and the dict -/
def Two (p sl : Addr) : Addr → Prop := fun b => b = p ∨ b = sl
/-- what is known of the new names -/
def Calls (K : PySem.W.Frag) (p dc : Addr) (H : Hp) (kvs : List (Key × V)) : Prop := ∀ e ∈ kvs, ∃ z : Str, e.1 = .inr z ∧ OkD 3000 12 (.str z) ∧ ∃ d, VS (Two p dc) K H e.2 d
theorem putK_mem {kvs : List (Key × V)} {k : Key} {v : V} {e : Key × V} (h : e ∈ putK kvs k v) : e ∈ kvs ∨ e = (k, v) := by
  unfold putK at h
  split at h
  · obtain ⟨x, hx, rfl⟩ := List.mem_map.mp h
    by_cases c : x.1 = k
    · right
      simp [c]
    · left
      simp only [c, if_false]
      exact hx
  · rcases List.mem_append.mp h with h | h
    · exact .inl h
    · exact .inr (List.mem_singleton.mp h)
theorem putK_len {kvs : List (Key × V)} {k : Key} {v : V} : (putK kvs k v).length ≤ kvs.length + 1 := by
  unfold putK
  split
  · rw [List.length_map]; omega
  · rw [List.length_append]; exact Nat.le_refl _
theorem Calls.put {K : PySem.W.Frag} {p dc : Addr} {H : Hp} {kvs : List (Key × V)} {z : Str} {v : V} {d : PyData} (h : Calls K p dc H kvs) (hz : OkD 3000 12 (.str z)) (hv : VS (Two p dc) K H v d) : Calls K p dc H (putK kvs (.inr z) v) := fun e he => by
  rcases putK_mem he with he | rfl
  · exact h e he
  · exact ⟨z, rfl, hz, d, hv⟩
theorem Calls.off {K : PySem.W.Frag} {p dc : Addr} {H H' : Hp} {kvs : List (Key × V)} (h : Calls K p dc H kvs) (s : ∀ b o, ¬ Two p dc b → H b = some o → H' b = some o) : Calls K p dc H' kvs := fun e he => by
  obtain ⟨z, h1, h2, d, h3⟩ := h e he
  exact ⟨z, h1, h2, d, h3.off s⟩
theorem Calls.extN {K : PySem.W.Frag} {p dc : Addr} {H H' : Hp} {kvs : List (Key × V)} (h : Calls K p dc H kvs) (s : ExtN H H') : Calls K p dc H' kvs := fun e he => by
  obtain ⟨z, h1, h2, d, h3⟩ := h e he
  exact ⟨z, h1, h2, d, h3.extN s⟩
theorem Calls.same {K : PySem.W.Frag} {p dc : Addr} {H H' : Hp} {kvs : List (Key × V)} (h : Calls K p dc H kvs) (s : Same H H') : Calls K p dc H' kvs := h.off fun b o _ e => s b o e
theorem name_okD {z : Str} (h : isName z = true) : OkD 3000 12 (.str z) := ⟨rfl, Nat.zero_le _, Nat.le_trans (sz_name h) (by decide)⟩
theorem word_okD {z : Str} (h : (decide ((reprText z).length ≤ 1000)) = true) : OkD 3000 12 (.str z) := ⟨rfl, Nat.zero_le _, Nat.le_trans (of_decide_eq_true h) (by decide)⟩
theorem Pen.upd {H : Hp} {p l c : Addr} {ns : List Int} {n : Nat} {g : Int} {o : HO} (h : Pen H p l ns n g) (h1 : c ≠ p) (h2 : c ≠ l) : Pen (L2.upd H c o) p l ns n g := ⟨(upd_ne h1.symm).trans h.pen, (upd_ne h2.symm).trans h.cells, h.left⟩
section
variable {P : Program} {w : World} {K : PySem.W.Frag} {mg : Str → Option Value} {base : Heap}
def spNames (K : PySem.W.Frag) : Sp := fun vs H Q _ => ∃ (p l r : Addr) (ns : List Int) (n : Nat) (g : Int) (kind : Str) (xs : List V), vs = [.ref p, .ref r] ∧ Pen H p l ns n g ∧ n < 900000 ∧ H r = some (.tup (.str kind :: xs)) ∧ kind ∈ kinds ∧ FlatRow kind xs ∧
  ∀ (dc : Addr) (kvs : List (Key × V)) (n' : Nat) (g' : Int) (H' : Hp), n' ≤ n + 18 → Off p H H' → Pen H' p l ns n' g' → H' dc = some (.dK kvs) → dc ≠ p → dc ≠ l → kvs.length ≤ 8 → Calls K p dc H' kvs → Q (.ref dc) H'
theorem ok_names {f fP fD fO fNm : Addr} {fd fdP fdD fdO fdNm : FuncData} (F : Fun K "_law_names" "_law_names" sNames f fd)
    (FP : Fun K "_law_pick" "_law_pick" sPick fP fdP) (bP : Binds K fdP ["_law_pen_here", "_law_some"] []) (gP : mg "_law_pick" = some (.ref fP)) (GP : FnOk P w K mg base CX0 2 fP fdP ["_law_pen_here", "_law_some"] (spPick K))
    (FD : Fun K "_law_draw" "_law_draw" sDraw fD fdD) (bD : Binds K fdD ["_law_pen_here", "_law_many"] []) (gD : mg "_law_draw" = some (.ref fD)) (GD : FnOk P w K mg base CX0 1 fD fdD ["_law_pen_here", "_law_many"] spDraw)
    (FO : Fun K "_law_odd_name" "_law_odd_name" sOddN fO fdO) (bO : Binds K fdO ["_law_pen_here"] []) (gO : mg "_law_odd_name" = some (.ref fO)) (GO : FnOk P w K mg base CX0 3 fO fdO ["_law_pen_here"] (spOdd gNam))
    (FNm : Fun K "_law_named" "_law_named" sNamed fNm fdNm) (bNm : Binds K fdNm ["_law_row"] []) (gNm : mg "_law_named" = some (.ref fNm)) (GNm : FnOk P w K mg base CX0 1 fNm fdNm ["_law_row"] (spNamed isS)) :
    FnOk P w K mg base CX0 4 f fd ["_law_pen_here", "_law_row"] (spNames K) := by
  refine F.ok scNames (fun vs H Q E h => ?_) (fun cdv A outer s H vs Q E hr h => ?_)
  · obtain ⟨_, _, _, _, _, _, _, _, rfl, _⟩ := h
    rfl
  · obtain ⟨p, l, r, ns, n, g, kind, xs, rfl, hp, hn, hx, hk, hf, q⟩ := h
    have hr1 : Room 1 _ := hr.mono (by decide)
    have hr2 : Room 2 _ := hr.mono (by decide)
    refine ⟨_, pss_cons (ps_set (i := 2) scNames.nd rfl (.inl rfl) (pe_disp (pps_cons pe_str pe_str pps_nil) rfl rfl (by simp) (by decide)))
      (pss_cons (ps_for PassesOwn.never rfl (pi_list (pe_op op_cat (pe_call GNm hr1 (by rfl) gNm FNm.kp bNm .nil pass0 (pa_cons (pv 1) pa_nil)) (pe_lst (pa_cons pe_str pa_nil)))) (pg_name (i := 3) scNames.nd rfl (Or.inl rfl))
        (pss_cons (ps_set (i := 4) scNames.nd rfl (.inl rfl) (pe_call GD hr1 (by rfl) gD FD.kp bD .nil pass0 (pa_cons (pv 0) (pa_cons pe_int pa_nil))))
        (pss_one (ps_if (pt_cmpR op_lt (pv 4) pe_int (nomark _)) (pss_one (ps_dput (hu_of hr) (pv 2) (pv 3) (pe_ifExp (pt_cmpR op_gt (pv 4) pe_int (nomark _)) (pe_call GP hr2 (by rfl) gP FP.kp bP .nil pass0 (pa_cons (pv 0) (pa_cons (pe_lst (pa_cons pe_str (pa_cons pe_str (pa_cons (pv 3) (pa_cons pe_str pa_nil))))) pa_nil)))
            (pe_call GO hr (by rfl) gO FO.kp bO .nil pass0 (pa_cons (pv 0) pa_nil))) rfl)) pss_nil))))
      (pss_one (ps_ret (pv 2)))), ?_⟩
    have hfl := hf.flat
    have hl4 : xs.length ≤ 4 := by rw [hf.1]; exact forms_len kind hk
    have hsz := sizeLine_eq
    intro dc hdc
    have hdc0 := hdc
    refine ⟨upd_same, [(.inr "other", .str "x")], rfl, by decide, ?_⟩
    rw [upd_upd]
    have s1 := same_upd0 (o := .dK (mergeK [] [((.inr "other" : Key), V.str "x")])) hdc
    have hd1 : (upd H dc (.dK (mergeK [] [((.inr "other" : Key), V.str "x")]))) dc = some (.dK [(.inr "other", .str "x")]) := upd_same
    revert s1 hd1
    generalize upd H dc (.dK (mergeK [] [((.inr "other" : Key), V.str "x")])) = H1
    intro s1 hd1
    have ndp : dc ≠ p := hp.ne hdc
    have ndl : dc ≠ l := fun z => by rw [z, hp.cells] at hdc; cases hdc
    have hx1 := s1 _ _ hx
    have pen1 := hp.same s1
    refine ⟨_, rfl, r, kind, xs, rfl, hx1, by omega, hfl, fun H2 nl s2 hnl0 hnl => ?_⟩
    have hd2 := s2 _ _ hd1
    have pen2 := pen1.same s2
    refine ⟨by show 1 ≤ sizeLine; decide, fun zl hzl => ?_⟩
    have s3 := same_upd0 (o := .lst [.str "zz"]) hzl
    refine ⟨nl, zl, _, _, rfl, rfl, s3 _ _ hnl, upd_same, ?_, fun wl hwl => ?_⟩
    · have := List.length_filter_le isS xs
      show (xs.filter isS).length + 1 ≤ sizeLine
      omega
    have s4 := s3.trans (same_upd0 (o := .lst (xs.filter isS ++ [.str "zz"])) hwl)
    have hwl1 : (L2.upd (L2.upd H2 zl (.lst [.str "zz"])) wl (.lst (xs.filter isS ++ [.str "zz"]))) wl = some (.lst (xs.filter isS ++ [.str "zz"])) := upd_same
    have hd3 := s4 _ _ hd2
    have pen3 := pen2.same s4
    have s04 := (s1.trans s2).trans s4
    revert hwl1 hd3 pen3 s04
    generalize L2.upd (L2.upd H2 zl (.lst [.str "zz"])) wl (.lst (xs.filter isS ++ [.str "zz"])) = H3
    intro hwl1 hd3 pen3 s04
    have words : ∀ v ∈ xs.filter isS ++ [.str "zz"], ∃ z, v = .str z ∧ isName z = true := by
      intro v hv
      rcases List.mem_append.mp hv with h | h
      · obtain ⟨h1, h2⟩ := List.mem_filter.mp h
        cases hfl v h1 with
        | nam hz => exact ⟨_, rfl, hz⟩
        | mom h => cases h2
        | tru b => cases h2
      · rw [List.mem_singleton.mp h]
        exact ⟨_, rfl, by decide +kernel⟩
    have hwlen : (xs.filter isS ++ [V.str "zz"]).length ≤ 5 := by
      have := List.length_filter_le isS xs
      rw [List.length_append]
      show (xs.filter isS).length + 1 ≤ 5
      omega
    generalize hW : xs.filter isS ++ [V.str "zz"] = W at hwl1 words hwlen
    clear s1 s2 s3 s4 hd1 hd2 pen1 pen2 hx1 hnl hzl hwl hdc
    have nwp : ¬ Two p dc wl := fun z => by
      rcases z with z | z
      · rw [z, pen3.pen] at hwl1
        cases hwl1
        simp at hwlen words
      · rw [z, hd3] at hwl1; cases hwl1
    refine ⟨wl, rfl, ⟨_, SqL.of hwl1⟩, ?_⟩
    refine for_it walk_list (fun k σ G => ∃ (kvs : List (Key × V)) (x3 x4 : Option V) (n' : Nat) (g' : Int), σ = [some (.ref p), some (.ref r), some (.ref dc), x3, x4] ∧ n' ≤ n + 3 * k ∧ Pen G p l ns n' g' ∧ (∀ b o, ¬ Two p dc b → H3 b = some o → G b = some o) ∧ G dc = some (.dK kvs) ∧ kvs.length ≤ 1 + k ∧ Calls K p dc G kvs)
      ⟨_, none, none, n, g, rfl, Nat.le_refl _, pen3, fun _ _ _ e => e, hd3, by decide, ?_⟩ (fun _ _ _ _ ⟨_, _, _, _, _, _, _, _, o, _⟩ => SqL.of (o _ _ nwp hwl1)) ?_ ?_
    · intro e he
      rw [List.mem_singleton.mp he]
      exact ⟨"other", rfl, word_okD (by decide +kernel), ((Od.name (H := H3) (z := "x") (by decide +kernel)).vs (K := K) (S := Two p dc) (fun b z => nomatch z))⟩
    · rintro k x σ G G' hk2 ⟨kvs, x3, x4, n4, g4, rfl, hn4, pen4, off4, hd4, hl4', hc4⟩ ⟨rfl, hxk⟩
      obtain ⟨z, rfl, hz⟩ := words x (List.mem_of_getElem? hxk)
      refine ⟨_, rfl, p, l, ns, n4, g4, _, rfl, pen4, by omega, by decide, by decide, fun d n5 g5 G5 d0 d1 hn5 off5 pen5 => ?_⟩
      have hd5 := off5 _ _ ndp hd4
      have offA : ∀ b o, ¬ Two p dc b → H3 b = some o → G5 b = some o := fun b o nb e => off5 _ _ (fun y => nb (.inl y)) (off4 b o nb e)
      have hc5 := hc4.off (H' := G5) fun b o nb e => off5 _ _ (fun y => nb (.inl y)) e
      have put : ∀ (v : V) (n6 : Nat) (g6 : Int) (G6 : Hp), n6 ≤ n5 + 2 → Off p G5 G6 → Pen G6 p l ns n6 g6 → (∃ dd, VS (Two p dc) K G6 v dd) → DPut G6 dc (.str z) v (L2.upd G6 dc (.dK (putK kvs (.inr z) v))) ∧
          ∃ (kvs' : List (Key × V)) (x3 x4 : Option V) (n' : Nat) (g' : Int), [some (.ref p), some (.ref r), some (.ref dc), some (.str z), some (.int d)] = [some (.ref p), some (.ref r), some (.ref dc), x3, x4] ∧ n' ≤ n + 3 * (k + 1) ∧ Pen (L2.upd G6 dc (.dK (putK kvs (.inr z) v))) p l ns n' g' ∧ (∀ b o, ¬ Two p dc b → H3 b = some o → (L2.upd G6 dc (.dK (putK kvs (.inr z) v))) b = some o) ∧ (L2.upd G6 dc (.dK (putK kvs (.inr z) v))) dc = some (.dK kvs') ∧ kvs'.length ≤ 1 + (k + 1) ∧ Calls K p dc (L2.upd G6 dc (.dK (putK kvs (.inr z) v))) kvs' := by
        intro v n6 g6 G6 hn6 off6 pen6 ⟨dd, hv⟩
        have hd6 := off6 _ _ ndp hd5
        have ku : ∀ b o, ¬ Two p dc b → G6 b = some o → (L2.upd G6 dc (.dK (putK kvs (.inr z) v))) b = some o := fun b o nb e => (upd_ne (fun y => nb (.inr y))).trans e
        refine ⟨DPut.k (k := .inr z) hd6 (by omega), putK kvs (.inr z) v, _, _, n6, g6, rfl, by omega, pen6.upd ndp ndl, fun b o nb e => ku b o nb (off6 _ _ (fun y => nb (.inl y)) (offA b o nb e)), upd_same, ?_, ?_⟩
        · have := putK_len (kvs := kvs) (k := .inr z) (v := v)
          omega
        · exact Calls.put ((hc5.off fun b o nb e => off6 _ _ (fun y => nb (.inl y)) e).off ku) (name_okD hz) (hv.off ku)
      refine ⟨_, rfl, _, _, rfl, rfl, _, rfl, ite2 (fun _ => ?_) (fun _ => ?_)⟩
      case refine_2 => exact ⟨kvs, _, _, n5, g5, rfl, by omega, pen5, offA, hd5, by omega, hc5⟩
      refine ⟨_, rfl, _, _, rfl, rfl, _, rfl, ite2 (fun _ => ?_) (fun _ => ?_)⟩
      · refine ⟨_, rfl, _, rfl, by show 4 ≤ sizeLine; decide, fun ql hql => ?_⟩
        have sq := same_upd0 (o := .lst [V.str "b", .str "new", .str z, .str "abcdefgh"]) hql
        refine ⟨p, l, ns, n5, g5, _, rfl, pen5.same sq, by omega, .inl ⟨ql, _, rfl, pen5.ne hql, upd_same, by show 0 < 4; decide, by show 4 ≤ 1000; decide, fun v n6 g6 G6 hv hn6 off6 pen6 => ?_⟩⟩
        have hv' : ∃ dd, VS (Two p dc) K G6 v dd := by
          simp only [List.mem_cons, List.not_mem_nil, or_false] at hv
          rcases hv with e | e | e | e <;> subst e
          · exact (Od.name (z := "b") (by decide +kernel)).vs (fun b z => nomatch z)
          · exact (Od.name (z := "new") (by decide +kernel)).vs (fun b z => nomatch z)
          · exact (Od.name hz).vs (fun b z => nomatch z)
          · exact (Od.name (z := "abcdefgh") (by decide +kernel)).vs (fun b z => nomatch z)
        obtain ⟨p1, p2⟩ := put v n6 g6 G6 (by omega) ((offS sq).trans off6) pen6 hv'
        exact ⟨_, rfl, _, rfl, dc, _, rfl, p1, p2⟩
      · refine ⟨_, rfl, p, l, ns, n5, g5, rfl, pen5, by omega, fun v n6 g6 G6 _ hod hnew hn6 off6 pen6 => ?_⟩
        obtain ⟨p1, p2⟩ := put v n6 g6 G6 (by omega) off6 pen6 (hod.vs fun b e y => by
          have := hnew b e
          rcases y with y | y
          · rw [y, pen5.pen] at this; cases this
          · rw [y, hd5] at this; cases this)
        exact ⟨_, rfl, _, rfl, dc, _, rfl, p1, p2⟩
    · rintro σ G ⟨kvs, x3, x4, n4, g4, rfl, hn4, pen4, off4, hd4, hl4', hc4⟩
      refine ⟨_, rfl, q dc kvs n4 g4 G (by omega) (fun b o nb e => ?_) pen4 hd4 ndp ndl (by omega) hc4⟩
      by_cases c : b = dc
      · subst c
        exact absurd e (by rw [hdc0]; exact fun z => nomatch z)
      · exact off4 b o (fun y => y.elim nb c) (s04 _ _ e)
end
end K14

namespace K14
open PySem PySem.Spec PyProof.Rows L2 So LamX StX TL
abbrev sRenR : Stmt := topS 63
abbrev rrN : List Str := ["_law_pen_here", "_law_row", "_law_kept", "_law_fresh", "_law_wrong", "_law_due", "_law_heard_here", "_law_calls", "_law_made_here", "_law_word", "_law_name", "_law_part"]
theorem scRenR : FnScope rrN ["_law_pen_here", "_law_row"] (defScope sRenR) := ⟨rfl, rfl, rfl, by decide +kernel, rfl, by decide +kernel, by decide +kernel⟩
/-- the new names as data, the same ones later too -/
theorem calls_data {K : PySem.W.Frag} {p dc : Addr} {H : Hp} : ∀ {kvs : List (Key × V)}, Calls K p dc H kvs → ∃ ds : List (PyData × PyData), (∀ H', (∀ v d, VS (Two p dc) K H v d → VS (Two p dc) K H' v d) → DdKv K H' kvs ds) ∧ (∀ d ∈ ds, OkD 3000 12 d.1 ∧ OkD 3000 12 d.2) ∧ ds.length = kvs.length
  | [], _ => ⟨[], fun _ _ => .nil, (fun _ h => nomatch h), rfl⟩
  | (k, v) :: r, h => by
    obtain ⟨ds, h1, h2, h3⟩ := calls_data (kvs := r) fun e he => h e (List.mem_cons_of_mem _ he)
    obtain ⟨z, hz, oz, d, hv⟩ := h (k, v) List.mem_cons_self
    have hz : k = .inr z := hz
    subst hz
    refine ⟨(.str z, d) :: ds, fun H' s => .cons (s _ _ hv).dd (h1 H' s), fun e he => ?_, by rw [List.length_cons, List.length_cons, h3]⟩
    rcases List.mem_cons.mp he with rfl | he
    · exact ⟨oz, hv.ok⟩
    · exact h2 e he
theorem valV_mem {kvs : List (Key × V)} {k : Key} {v : V} (h : valV kvs k = some v) : (k, v) ∈ kvs := by
  unfold valV at h
  cases e : kvs.find? (fun kv => decide (kv.1 = k)) with
  | none => rw [e] at h; cases h
  | some kv =>
    rw [e] at h
    have e2 : kv.2 = v := by simpa using h
    have h1 := List.find?_some e
    have h2 := List.mem_of_find?_eq_some e
    have h3 : kv.1 = k := of_decide_eq_true h1
    rw [← h3, ← e2]
    exact h2
/-- a new name shows -/
theorem get_vs {K : PySem.W.Frag} {p dc : Addr} {H : Hp} {kvs : List (Key × V)} {z : Str} (h : Calls K p dc H kvs) (hz : isName z = true) : ∃ d, VS (Two p dc) K H (getK kvs (.str z)) d := by
  show ∃ d, VS (Two p dc) K H ((valV kvs (.inr z)).getD (.str z)) d
  cases e : valV kvs (.inr z) with
  | none => exact (Od.name hz).vs (fun b z => nomatch z)
  | some v =>
    obtain ⟨_, _, _, d, hv⟩ := h _ (valV_mem e)
    exact ⟨d, hv⟩
theorem getK_flat {kvs : List (Key × V)} {v : V} (h : Flat1 v) (n : isS v = false) : getK kvs v = v := by
  cases h with
  | nam h => cases n
  | mom h => rfl
  | tru b => rfl
theorem forms_pos : ∀ kind ∈ kinds, 0 < (formsOf kind).length := by decide +kernel
section
variable {X : Cx} {Cf : Str → Addr} {f : Addr} {fd : FuncData} {CN CM CS : Addr} {E : XK} {o e : Expr} {es : List Expr} {kws : List Keyword} {ta : TE} {t : TA} {tk : TA} {apos pos : Pos}
theorem pe_renA {pl : Sem Bool} (he : PE X o ta) (c : ∀ kind ∈ kinds, Cls X.K (Cf kind)) (hm : ∀ kind ∈ kinds, Meth X.K (Cf kind) "renamed" f) (F : FnOk X.prog X.w X.K X.mg X.base (L2.CX X.prog X.w) 9 f fd ["self", "names"] (spRen CN CM CS Cf)) (hr : Room 9 X.A) (hb : Binds X.K fd ["self", "names"] []) (hx : Passes (L2.CX X.prog X.w) X E) (ha : PA X (e :: es) t)
    (hst : starEach (e :: es) X.env = (false, eval e X.env) :: starEach es X.env := by rfl) (hpl : (backTo pos (starEach es X.env)).any (·.1) = false := by rfl)
    (ht : eval (.Call (.Attribute o "renamed" apos) (e :: es) [] pos) X.env = (do
      let ov ← eval o X.env
      standAt apos.atName
      let (f, first) ← holding [ov] (getMethod ov "renamed" pl)
      callWith pos f first (backTo pos (starEach (e :: es) X.env)) (backToKw pos (keywordEach [] X.env))) := by rfl) :
    PE X (.Call (.Attribute o "renamed" apos) (e :: es) [] pos) (fun σ H Q => ∃ kind, kind ∈ kinds ∧ tMeth (Cf kind) "renamed" (spRen CN CM CS Cf) [] E ta t σ H Q) :=
  pe_ex fun kind hk => pe_meth he (c kind hk) (hm kind hk) F hr hb .nil hx ha hst hpl ht
theorem pe_renK {pl : Sem Bool} (he : PE X o ta) (c : ∀ kind ∈ kinds, Cls X.K (Cf kind)) (hm : ∀ kind ∈ kinds, Meth X.K (Cf kind) "renamed" f) (F : FnOk X.prog X.w X.K X.mg X.base (L2.CX X.prog X.w) 9 f fd ["self", "names"] (spRen CN CM CS Cf)) (hr : Room 9 X.A) (hb : KBinds X.K fd ["self", "names"] ["names"] kText kText) (hx : Passes (L2.CX X.prog X.w) X E)
    (hkw : PK X kws tk) (hall : (backToKw pos (keywordEach kws X.env)).all (·.1.isSome) = true := by rfl) (hks : (backToKw pos (keywordEach kws X.env)).filterMap (·.1) = (["names"] : List Str) := by rfl)
    (hpl : ((backTo pos (starEach [] X.env)).any (·.1) || (backToKw pos (keywordEach kws X.env)).any (·.1.isNone)) = false := by rfl)
    (ht : eval (.Call (.Attribute o "renamed" apos) [] kws pos) X.env = (do
      let ov ← eval o X.env
      standAt apos.atName
      let fx ← holding [ov] (getMethod ov "renamed" pl)
      callWith pos fx.1 fx.2 (backTo pos (starEach [] X.env)) (backToKw pos (keywordEach kws X.env))) := by rfl) :
    PE X (.Call (.Attribute o "renamed" apos) [] kws pos) (fun σ H Q => ∃ kind, kind ∈ kinds ∧ ta σ H fun x H1 => ∃ a dx fs, x = .ref a ∧ H1 a = some (.ins (Cf kind) dx fs) ∧ fs.lookup ("renamed" : Str) = none ∧ tk σ H1 fun zs H2 => spRen CN CM CS Cf (kText [x] zs) H2 Q E) :=
  pe_ex fun kind hk => pe_methK he (c kind hk) (hm kind hk) F hr hb hx hkw hall hks hpl ht
end
section
variable {P : Program} {w : World} {K : PySem.W.Frag} {mg : Str → Option Value} {base : Heap}
def spRenR (T : List (Addr × Str)) : Sp := fun vs H Q _ => ∃ (p l r : Addr) (ns : List Int) (n : Nat) (g : Int) (kind : Str) (xs : List V), vs = [.ref p, .ref r] ∧ Pen H p l ns n g ∧ n < 900000 ∧ H r = some (.tup (.str kind :: xs)) ∧ kind ∈ kinds ∧ FlatRow kind xs ∧ Tabs T H ∧
  ∀ (n' : Nat) (g' : Int) (H' : Hp), n' ≤ n + 18 → OffN p H H' → Pen H' p l ns n' g' → Tabs T H' → Q (.bl true) H'
theorem ok_renR {T : List (Addr × Str)} {Cf : Str → Addr} {CT CN CM CS CO CR f c1 P1 fNs fNm fLi fM fX fH : Addr} {fd fdNs fdNm fdLi fdM fdX fdH : FuncData} (F : Fun K "_law_rename_right" "_law_rename_right" sRenR f fd) (hcode : fd.code = .ref c1) (TB : TabB base mg c1 P1)
    (hT1 : ∀ n f' c', (P1, (envOfC "_law_rename_right" (defScope sRenR) n f' c').qual ++ "<lambda>") ∈ T) (hT2 : ∀ n f' c', ∀ q ∈ T, q.1 = P1 → q.2 = (envOfC "_law_rename_right" (defScope sRenR) n f' c').qual ++ "<lambda>")
    (M : Mths K P w mg base Cf CR CN CM CS) (R : HrL K mg CT CN CM CO) (mp : mg "repr" = none) (mt : mg "tuple" = none)
    (FNs : Fun K "_law_names" "_law_names" sNames fNs fdNs) (bNs : Binds K fdNs ["_law_pen_here", "_law_row"] []) (gNs : mg "_law_names" = some (.ref fNs)) (GNs : FnOk P w K mg base CX0 4 fNs fdNs ["_law_pen_here", "_law_row"] (spNames K))
    (FNm : Fun K "_law_named" "_law_named" sNamed fNm fdNm) (bNm : Binds K fdNm ["_law_row"] []) (gNm : mg "_law_named" = some (.ref fNm)) (GNm : FnOk P w K mg base CX0 1 fNm fdNm ["_law_row"] (spNamed isS))
    (FLi : Fun K "_law_is_name" "_law_is_name" sLIs fLi fdLi) (bLi : Binds K fdLi ["_law_word"] []) (gLi : mg "_law_is_name" = some (.ref fLi)) (GLi : FnOk P w K mg base CX0 2 fLi fdLi ["_law_word"] spLIs)
    (FM : Fun K "_law_made" "_law_made" sMade fM fdM) (bM : Binds K fdM ["_law_row"] []) (gM : mg "_law_made" = some (.ref fM)) (GM : FnOk P w K mg base (L2.CX P w) 8 fM fdM ["_law_row"] (spMade CN CM CS Cf))
    (FX : Fun K "_law_text" "_law_text" sText fX fdX) (bX : Binds K fdX ["_law_row"] []) (gX : mg "_law_text" = some (.ref fX)) (GX : FnOk P w K mg base CX0 1 fX fdX ["_law_row"] spText)
    (FH : Fun K "_law_heard" "_law_heard" sHeard fH fdH) (bH0 : Binds K fdH ["_law_ask"] []) (gH : mg "_law_heard" = some (.ref fH)) :
    FnG P w K mg base CX0 12 f fd ["_law_pen_here", "_law_row"] (spRenR T) := by
  obtain ⟨f1, fd1, s1, i1, b1, G1⟩ := M.eq
  obtain ⟨f2, fd2, s2, i2, b2, G2⟩ := M.str
  obtain ⟨f3, fd3, m3, b3, k3, G3⟩ := M.ren
  have cls : ∀ kind ∈ kinds, Cls K (Cf kind) := fun kind hk => (M.T.c kind hk).cl
  obtain ⟨ocH, odH, kVH, docH, pmH, anH, cdvH, ctH, oslH, efd, lkH, hcH⟩ := FH.ex
  subst efd
  have bH := bH0
  refine fnG_ofC F hcode scRenR (fun vs H Q E h => ?_) (fun A outer s H vs Q E hg hr h => ?_)
  · obtain ⟨_, _, _, _, _, _, _, _, rfl, _⟩ := h
    rfl
  · obtain ⟨p, l, r, ns, n, g, kind, xs, rfl, hp, hn, hx, hk, hf, hT, q⟩ := h
    have hr1 : Room 1 _ := hr.mono (by decide)
    have hr2 : Room 2 _ := hr.mono (by decide)
    have hr4 : Room 4 _ := hr.mono (by decide)
    have hr8 : Room 8 _ := hr.mono (by decide)
    have hr9 : Room 9 _ := hr.mono (by decide)
    refine ⟨_, pss_cons (ps_set (i := 7) scRenR.nd rfl (.inr rfl) (pe_call GNs hr4 (by rfl) gNs FNs.kp bNs .nil pass0 (pa_cons (pv 0) (pa_cons (pv 1) pa_nil))))
      (pss_cons (ps_asg (pe_tup (pa_cons (pe_callB (call_reprG hg hr.units) (by rfl) mp (by decide +kernel) (pa_cons (pv 7) pa_nil)) (pa_cons (pe_call GM hr8 (by rfl) gM FM.kp bM .nil passNo (pa_cons (pv 1) pa_nil)) pa_nil))) (pg_tup rfl (pgs_cons (pg_name (i := 2) scRenR.nd rfl (Or.inl rfl)) (pgs_cons (pg_name (i := 8) scRenR.nd rfl (Or.inr rfl)) pgs_nil))))
      (pss_cons (ps_setLc (i := 3) (own := [("_law_word", 9)]) (g := gName 9) (tt := tYes) rfl scRenR.nd rfl rfl (sw_true rfl rfl rfl (by decide +kernel)) (pi_list (pe_call GNm hr1 (by rfl) gNm FNm.kp bNm .nil pass0 (pa_cons (pv 1) pa_nil))) (blkOk_by (N := rrN) (sc := defScope sRenR) (by decide +kernel))
          (fun _ _ _ _ _ => pg_name (i := 9) scRenR.nd rfl (Or.inl rfl)) (fun _ _ _ _ _ => pts_nil)
          (fun _ _ _ _ _ => pe_dget2 (hu_of hr) (pv 7) (pv 9) (pv 9) ⟨rfl, rfl, rfl, rfl⟩))
      (pss_cons (ps_setLc (i := 4) (own := [("_law_name", 10)]) (g := gName 10) rfl scRenR.nd rfl rfl (sw_true rfl rfl rfl (by decide +kernel)) (pi_list (pv 3)) (blkOk_by (N := rrN) (sc := defScope sRenR) (by decide +kernel))
          (fun _ _ _ _ _ => pg_name (i := 10) scRenR.nd rfl (Or.inl rfl)) (fun _ _ _ _ _ => pts_one (PW.pt (pw_or (pt_not (pt_val (pe_callB (isiK (K := K) rfl) (by rfl) M.W.isi (by decide +kernel) (pa_cons (pv 10) (pa_cons (pe_bltn (v := .ty "str") (by rfl) M.W.str (by decide +kernel) rfl) pa_nil))))) (pw_or1 (pt_not (pt_val (pe_call GLi hr2 (by rfl) gLi FLi.kp bLi .nil pass0 (pa_cons (pv 10) pa_nil))))))))
          (fun _ _ _ _ _ => pv 10))
      (pss_cons (ps_set (i := 5) scRenR.nd rfl (.inl rfl) (pe_op op_catT (pe_tup (pa_cons (pe_ix ix_tup (pv 1) pe_int (fun _ _ => rfl)) pa_nil)) (pe_callTy call_tuple_of (by rfl) mt (by decide +kernel) (pa_cons (pe_lc (own := [("_law_part", 11)]) (g := gName 11) (tt := tYes) rfl scRenR.nd (pi_tup (pe_slice sl_tup (pv 1) (po_some pe_int) po_none)) (blkOk_by (N := rrN) (sc := defScope sRenR) (by decide +kernel))
          (fun _ _ _ _ _ => pg_name (i := 11) scRenR.nd rfl (Or.inl rfl)) (fun _ _ _ _ _ => pts_nil)
          (fun _ _ _ _ _ => pe_ifExp (pt_val (pe_callB (isiK (K := K) rfl) (by rfl) M.W.isi (by decide +kernel) (pa_cons (pv 11) (pa_cons (pe_bltn (v := .ty "str") (by rfl) M.W.str (by decide +kernel) rfl) pa_nil)))) (pe_dget2 (hu_of hr) (pv 7) (pv 11) (pv 11) ⟨rfl, rfl, rfl, rfl⟩) (pv 11))) pa_nil))))
      (pss_cons (ps_cut (ps_set (i := 6) scRenR.nd rfl (.inl rfl) (pe_lamcall (T := T) (TT := TTL CN CM CO) (t := _) (k := 9) (by rfl) gH FH.kp lkH hcH bH scHeard rfl (Or.inl rfl) (heard_gives R) TB rfl (hT1 _ _ _) (hT2 _ _ _) hr
            (lamS_by (sc := defScope sRenR) (by decide +kernel)) rfl (fun _ _ _ _ _ => rfl) (fun A outer s H E f c' hr' => pe_callTy (cr_strA G2 s2 i2 b2 (hr'.mono (by decide))) (by rfl) M.W.str (by decide +kernel) (pa_cons (pe_renA (pv 8) cls m3 G3 hr' b3 (passes_call (takes_of rfl rfl rfl rfl) (fun _ _ _ _ h => h)) (pa_cons (pv 7) pa_nil)) pa_nil)))))
      (pss_cons (ps_cut (ps_if (pt_cmpR op_ne (pe_callB (call_reprG hg hr.units) (by rfl) mp (by decide +kernel) (pa_cons (pv 6) pa_nil)) (pe_callB (call_reprG hg hr.units) (by rfl) mp (by decide +kernel) (pa_cons (pe_ifExp (pt_cmpR (op_neNil hr.units0) (pv 4) (pe_lst pa_nil) (nomark _)) (pe_tup (pa_cons pe_str (pa_cons (pe_ix ix_list (pv 4) pe_int (fun _ _ => rfl)) pa_nil))) (pe_tup (pa_cons pe_str (pa_cons (pe_call GX hr1 (by rfl) gX FX.kp bX .nil pass0 (pa_cons (pv 5) pa_nil)) pa_nil)))) pa_nil)) (nomark _)) (pss_one (ps_ret pe_bl)) pss_nil))
      (pss_cons (ps_cut (ps_if (PW.pt (pw_and (pt_cmpR (op_eqNil hr.units0) (pv 4) (pe_lst pa_nil) (nomark _)) (pw_and1 (pt_not (pt_cmpR (op_eqA G1 s1 i1 b1 hr1) (pe_renK (pv 8) cls m3 G3 hr9 k3 passNo (pk_cons (pv 7) pk_nil)) (pe_call GM hr8 (by rfl) gM FM.kp bM .nil passNo (pa_cons (pv 5) pa_nil)) (nomark _)))))) (pss_one (ps_ret pe_bl)) pss_nil))
      (pss_one (ps_ret (pe_and (pe_cmpR (op_eqA G1 s1 i1 b1 hr1) (pv 8) (pe_call GM hr8 (by rfl) gM FM.kp bM .nil passNo (pa_cons (pv 1) pa_nil)) (nomark _)) (pe_one (pe_cmpR op_eq (pe_callB (call_reprG hg hr.units) (by rfl) mp (by decide +kernel) (pa_cons (pv 7) pa_nil)) (pv 2) (nomark _))))))))))))), ?_⟩
    have hfl := hf.flat
    have hl4 : xs.length ≤ 4 := by rw [hf.1]; exact forms_len kind hk
    have hl1 : 0 < xs.length := by rw [hf.1]; exact forms_pos kind hk
    have hsz := sizeLine_eq
    have hgv : ∀ (G : Hp), ∀ y ∈ xs, ∃ T, Gv G y T := fun G y hy => (hfl y hy).gv G
    have hbad : badL CN CM CS (xs.zip (formsOf kind)) = none := flat_bad hf
    refine ⟨_, rfl, _, rfl, p, l, r, ns, n, g, kind, xs, rfl, hp, by omega, hx, hk, hf, fun dc kvs n1 g1 H1 hn1 off1 pen1 hdk ndp ndl hkl hC => ?_⟩
    have nrp : r ≠ p := ne_of hx hp.pen (fun z => nomatch z)
    have hx1 := off1 _ _ nrp hx
    have t1 := tabs_off hp.pen hT off1
    obtain ⟨ds, hds, hdo, hdl⟩ := calls_data hC
    have okD0 := (OkD.dict (n := 3000) (m := 12) hdo).repr (by decide) (by rw [hdl]; omega)
    have hdd : ∀ G, ExtN H1 G → Dd K G (.ref dc) (.dict ds) := fun G x => .dct (x _ _ hdk dk_ne) (hds G fun v d hv => hv.extN x)
    -- what is kept
    refine ⟨_, rfl, _, _, rfl, hdd H1 (extN_of (Same.refl _)), okD0.1, okD0.2.1, okD0.2.2, ?_⟩
    refine ⟨_, rfl, r, kind, xs, rfl, hx1, hk, hf.1, hgv H1, fun _ H2 a s2 A2 => ?_, fun C fl v e => by rw [hbad] at e; cases e⟩
    refine ⟨by show 2 ≤ sizeLine; decide, fun tq htq => ⟨tq, _, rfl, SqT.of upd_same, rfl, _, _, rfl, _, _, rfl, rfl, ?_⟩⟩
    have s3 := same_upd0 (o := .tup [V.str (PyData.dict ds).shown, .ref a]) htq
    have A3 := A2.same s3
    have s13 := s2.trans s3
    clear A2 htq
    revert A3 s13
    generalize L2.upd H2 tq (.tup [V.str (PyData.dict ds).shown, .ref a]) = H3
    intro A3 s13
    clear s2 s3
    -- the new names
    refine ⟨_, rfl, r, kind, xs, rfl, s13 _ _ hx1, by omega, hfl, fun H4 nl s4 hnl0 hnl => ⟨nl, rfl, ⟨_, SqL.of hnl⟩, fun D hD => ?_⟩⟩
    have s14 := s13.trans s4
    have hdk4 := s14 _ _ hdk
    have lenF : ∀ k, ((xs.filter isS).take k).length ≤ 4 := fun k => by
      have h1 := List.length_filter_le isS xs
      have h2 : ((xs.filter isS).take k).length ≤ (xs.filter isS).length := List.length_take_le' _ _
      omega
    refine lc_it walk_list (fun k H' => Same H4 H' ∧ H' D = some (.lst (((xs.filter isS).take k).map (getK kvs)))) ⟨Same.over (Same.refl H4) hD, upd_same⟩ (fun _ _ _ y => SqL.of (y.1 _ _ hnl)) ?_ ?_
    · rintro k x G G' hk2 ⟨sG, hDk⟩ ⟨rfl, hxk⟩
      have et : (xs.filter isS).take (k + 1) = (xs.filter isS).take k ++ [x] := by rw [List.take_add_one, hxk]; rfl
      obtain ⟨hv1, hv2⟩ := List.mem_filter.mp (List.mem_of_getElem? hxk)
      have hd5 := sG _ _ hdk4
      have hlt : (((xs.filter isS).take k).map (getK kvs)).length < sizeLine := by
        have := lenF k
        rw [List.length_map]
        omega
      cases hfl x hv1 with
      | @nam z hz =>
        refine ⟨rfl, _, rfl, dc, rfl, .inl ⟨_, .inl hd5⟩, _, rfl, _, rfl, _, .inl ⟨_, .inr z, .inl hd5, rfl, rfl⟩, _, hDk, hlt, Same.over sG hD, ?_⟩
        rw [et, List.map_append]
        exact upd_same
      | mom h => cases hv2
      | tru b => cases hv2
    rintro H5 ⟨s5, hD5⟩
    rw [List.take_length] at hD5
    have s15 := s14.trans s5
    have A5 := A3.same (s4.trans s5)
    have hfr : ∀ v ∈ (xs.filter isS).map (getK kvs), ∃ d, VS (Two p dc) K H1 v d := by
      intro v hv
      obtain ⟨y, hy, rfl⟩ := List.mem_map.mp hv
      obtain ⟨hv1, hv2⟩ := List.mem_filter.mp hy
      cases hfl y hv1 with
      | @nam z hz => exact get_vs hC hz
      | mom h => cases hv2
      | tru b => cases hv2
    have lenG : ((xs.filter isS).map (getK kvs)).length ≤ 4 := by
      have h1 := List.length_filter_le isS xs
      rw [List.length_map]
      omega
    have hwn : wnL kvs xs = ((xs.filter isS).map (getK kvs)).filter fun v => !gNam v := rfl
    generalize (xs.filter isS).map (getK kvs) = fresh at hD5 hfr lenG hwn
    clear s14 s13 hdk4 lenF hnl hnl0 A3 s4 s5
    -- the wrong ones
    refine ⟨_, rfl, D, rfl, ⟨_, SqL.of hD5⟩, fun D4 hD4 => ?_⟩
    have lenW : ∀ k, ((fresh.take k).filter fun v => !gNam v).length ≤ 4 := fun k => by
      have h1 := List.length_filter_le (fun v => !gNam v) (fresh.take k)
      have h2 : (fresh.take k).length ≤ fresh.length := List.length_take_le' _ _
      omega
    refine lc_it walk_list (fun k H' => Same H5 H' ∧ H' D4 = some (.lst ((fresh.take k).filter fun v => !gNam v))) ⟨Same.over (Same.refl H5) hD4, upd_same⟩ (fun _ _ _ y => SqL.of (y.1 _ _ hD5)) ?_ ?_
    · rintro k x G G' hk2 ⟨sG, hDk⟩ ⟨rfl, hxk⟩
      have et : fresh.take (k + 1) = fresh.take k ++ [x] := by rw [List.take_add_one, hxk]; rfl
      obtain ⟨dx, hvx⟩ := hfr x (List.mem_of_getElem? hxk)
      obtain ⟨Tx, hgx⟩ := (hvx.same (s15.trans sG)).gv
      rw [et, List.filter_append]
      have yes : gNam x = false → G' D4 = some (.lst ((fresh.take k).filter fun v => !gNam v)) → ∃ acc, G' D4 = some (.lst acc) ∧ acc.length < sizeLine ∧ Same H5 (L2.upd G' D4 (.lst (acc ++ [x]))) ∧ (L2.upd G' D4 (.lst (acc ++ [x]))) D4 = some (.lst (((fresh.take k).filter fun v => !gNam v) ++ [x].filter fun v => !gNam v)) := fun e hd => by
        refine ⟨_, hd, by have := lenW k; omega, Same.over sG hD4, ?_⟩
        rw [upd_same]
        simp [e]
      cases hgx with
      | str z hz2 =>
        refine ⟨rfl, ?_⟩
        refine ⟨_, rfl, _, _, _, _, true, rfl, .ty "str", (Gv.str z hz2).ty, kit_str_str, _, rfl, iteF ?_⟩
        refine ⟨_, rfl, z, rfl, hz2, fun G2 s2' => ⟨_, rfl, ?_⟩⟩
        have hDk2 := s2' _ _ hDk
        cases e : isName z with
        | true =>
          refine iteF ⟨sG.trans s2', ?_⟩
          rw [hDk2]
          have e' : gNam (.str z) = true := e
          simp [e']
        | false =>
          refine iteT ?_
          have e' : gNam (.str z) = false := e
          refine ⟨_, rfl, _, hDk2, by have := lenW k; omega, Same.over (sG.trans s2') hD4, ?_⟩
          rw [upd_same]
          simp [e']
      | non => exact ⟨rfl, _, rfl, _, _, _, _, false, rfl, .ty "str", Gv.non.ty, kit_ty (by decide +kernel), _, rfl, iteT (iteT ⟨_, rfl, yes rfl hDk⟩)⟩
      | bl b => exact ⟨rfl, _, rfl, _, _, _, _, false, rfl, .ty "str", (Gv.bl b).ty, kit_ty (by decide +kernel), _, rfl, iteT (iteT ⟨_, rfl, yes rfl hDk⟩)⟩
      | int i => exact ⟨rfl, _, rfl, _, _, _, _, false, rfl, .ty "str", (Gv.int i).ty, kit_ty (by decide +kernel), _, rfl, iteT (iteT ⟨_, rfl, yes rfl hDk⟩)⟩
      | lst e => exact ⟨rfl, _, rfl, _, _, _, _, false, rfl, .ty "str", (Gv.lst e).ty, kit_ty (by decide +kernel), _, rfl, iteT (iteT ⟨_, rfl, yes rfl hDk⟩)⟩
      | tup e => exact ⟨rfl, _, rfl, _, _, _, _, false, rfl, .ty "str", (Gv.tup e).ty, kit_ty (by decide +kernel), _, rfl, iteT (iteT ⟨_, rfl, yes rfl hDk⟩)⟩
      | dK e => exact ⟨rfl, _, rfl, _, _, _, _, false, rfl, .ty "str", (Gv.dK e).ty, kit_ty (by decide +kernel), _, rfl, iteT (iteT ⟨_, rfl, yes rfl hDk⟩)⟩
    rintro H6 ⟨s6, hD6⟩
    rw [List.take_length, ← hwn] at hD6
    have lenW' : (wnL kvs xs).length ≤ 4 := by
      rw [hwn]
      have h1 := List.length_filter_le (fun v => !gNam v) fresh
      omega
    have hwv : ∀ v ∈ wnL kvs xs, ∃ d, VS (Two p dc) K H1 v d := fun v hv => hfr v (by rw [hwn] at hv; exact (List.mem_filter.mp hv).1)
    have s16 := s15.trans s6
    have A6 := A5.same s6
    clear hwn lenW hD5 hD4 hD s15 A5 s6 hfr lenG
    -- the row renamed
    have hx6 := s16 _ _ hx1
    refine ⟨_, rfl, r, _, _, _, rfl, rfl, SqT.of hx6, atI_nat (j := 0) rfl, by show 1 ≤ sizeLine; decide, fun ta hta => ?_⟩
    have s7 := same_upd0 (o := .tup [V.str kind]) hta
    have hta7 : (L2.upd H6 ta (.tup [V.str kind])) ta = some (.tup [V.str kind]) := upd_same
    have hx7 := s7 _ _ hx6
    refine ⟨_, rfl, _, rfl, r, V.str kind :: xs, rfl, SqT.of hx7, cut1_not _ _, fun tb htb => ?_⟩
    rw [cut1]
    have s8 := s7.trans (same_upd0 (o := .tup xs) htb)
    have htb8 : (L2.upd (L2.upd H6 ta (.tup [V.str kind])) tb (.tup xs)) tb = some (.tup xs) := upd_same
    have hta8 := same_upd0 (o := .tup xs) htb _ _ hta7
    revert s8 htb8 hta8
    generalize L2.upd (L2.upd H6 ta (.tup [V.str kind])) tb (.tup xs) = H8
    intro s8 htb8 hta8
    clear s7 hta7 hx7 hta htb
    have hdk8 := s8 _ _ (s16 _ _ hdk)
    refine ⟨tb, rfl, ⟨_, SqT.of htb8⟩, fun D5 hD5 => ?_⟩
    refine lc_it walk_tup (fun k H' => Same H8 H' ∧ H' D5 = some (.lst ((xs.take k).map (getK kvs)))) ⟨Same.over (Same.refl H8) hD5, upd_same⟩ (fun _ _ _ y => SqT.of (y.1 _ _ htb8)) ?_ ?_
    · rintro k x G G' hk2 ⟨sG, hDk⟩ ⟨rfl, hxk⟩
      have et : xs.take (k + 1) = xs.take k ++ [x] := by rw [List.take_add_one, hxk]; rfl
      have hd9 := sG _ _ hdk8
      have hlt : ((xs.take k).map (getK kvs)).length < sizeLine := by
        have h2 : (xs.take k).length ≤ xs.length := List.length_take_le' _ _
        rw [List.length_map]
        omega
      rw [et, List.map_append]
      cases hfl x (List.mem_of_getElem? hxk) with
      | @nam z hz =>
        refine ⟨rfl, ?_⟩
        refine ⟨_, rfl, _, _, _, _, true, rfl, .ty "str", (Gv.str z (Nat.le_trans (name_len hz) (by decide))).ty, kit_str_str, _, rfl, iteT ?_⟩
        exact ⟨_, rfl, dc, rfl, .inl ⟨_, .inl hd9⟩, _, rfl, _, rfl, _, .inl ⟨_, .inr z, .inl hd9, rfl, rfl⟩, _, hDk, hlt, Same.over sG hD5, upd_same⟩
      | @mom i hi =>
        refine ⟨rfl, ?_⟩
        refine ⟨_, rfl, _, _, _, _, false, rfl, .ty "str", (Gv.int i).ty, kit_ty (by decide +kernel), _, rfl, iteF ?_⟩
        exact ⟨_, rfl, _, hDk, hlt, Same.over sG hD5, upd_same⟩
      | @tru b =>
        refine ⟨rfl, ?_⟩
        refine ⟨_, rfl, _, _, _, _, false, rfl, .ty "str", (Gv.bl b).ty, kit_ty (by decide +kernel), _, rfl, iteF ?_⟩
        exact ⟨_, rfl, _, hDk, hlt, Same.over sG hD5, upd_same⟩
    rintro H9 ⟨s9, hD9⟩
    rw [List.take_length] at hD9
    refine ⟨D5, _, rfl, .inl ⟨SqL.of hD9, fun tp htp => ?_⟩⟩
    have s10 := same_upd0 (o := .tup (xs.map (getK kvs))) htp
    have hta10 := s10 _ _ (s9 _ _ hta8)
    refine ⟨ta, tp, _, _, rfl, rfl, SqT.of hta10, SqT.of upd_same, (fun z => nomatch z), by show 1 + (xs.map (getK kvs)).length ≤ sizeLine; rw [List.length_map]; omega, fun e => ?_, fun _ du hdu => ?_⟩
    · have e2 : (xs.map (getK kvs)).length = 0 := by rw [e]; rfl
      rw [List.length_map] at e2
      omega
    have s11 := s10.trans (same_upd0 (o := .tup ([V.str kind] ++ xs.map (getK kvs))) hdu)
    have hduA : (L2.upd (L2.upd H9 tp (.tup (xs.map (getK kvs)))) du (.tup ([V.str kind] ++ xs.map (getK kvs)))) du = some (.tup (V.str kind :: xs.map (getK kvs))) := upd_same
    have s6A := (s8.trans s9).trans s11
    revert s6A hduA
    generalize L2.upd (L2.upd H9 tp (.tup (xs.map (getK kvs)))) du (.tup ([V.str kind] ++ xs.map (getK kvs))) = HA
    intro hduA s6A
    have s1A := s16.trans s6A
    have AA := A6.same s6A
    have hDA := s6A _ _ hD6
    have hdkA := s1A _ _ hdk
    have penA := pen1.same s1A
    have tA := tabs_same t1 s1A
    clear s10 hta10 hdu htp s11 s8 s9 hta8 htb8 hdk8 hD9 hD5 hx6 A6 hD6
    -- what is heard
    obtain ⟨dx, fs, haA, toldA⟩ := id AA
    have hlk : fs.lookup ("renamed" : Str) = none := toldA.2.2.2 "renamed" (by simp)
    have hrn : rnL kvs (xs.zip (formsOf kind)) = xs.map (getK kvs) := rnL_eq hk hf
    have hbd := bad_renamed (CN := CN) (CM := CM) (CS := CS) (kvs := kvs) hk hf
    have hml : (xs.map (getK kvs)).length = (formsOf kind).length := by rw [List.length_map]; exact hf.1
    have hgK : ∀ G, ExtN H1 G → ∀ z v, valV kvs (.inr z) = some v → ∃ T, Gv G v T := fun G x z v e => by
      obtain ⟨_, _, _, d, hv⟩ := hC _ (valV_mem e)
      exact (hv.extN x).gv
    generalize hws : wnL kvs xs = ws at hbd hDA hwv lenW'
    generalize xs.map (getK kvs) = ys at hrn hbd hduA hml
    refine ⟨fun σ G => ∃ (rr : Addr) (wd : Str) (u : V), σ = [some (.ref p), some (.ref r), some (.str (PyData.dict ds).shown), some (.ref D), some (.ref D4), some (.ref du), some (.ref rr), some (.ref dc), some (.ref a), none, none, none] ∧ ExtN HA G ∧ Tabs T G ∧ G rr = some (.tup [.str wd, u]) ∧ ((ws = [] ∧ FlatRow kind ys ∧ wd = "told" ∧ u = .str (rowText kind ys)) ∨ ∃ w wr, ws = w :: wr ∧ wd = "name" ∧ u = w), ?_, ?_⟩
    · refine ⟨tA, fun H7 x7 t7 => ?_⟩
      have A7 := AA.ext x7
      have ha7 := x7 _ _ haA ins_ne
      have hdk7 := x7 _ _ hdkA dk_ne
      refine ⟨kind, hk, _, rfl, a, dx, fs, rfl, ha7, hlk, _, rfl, a, dc, kvs, kind, xs, rfl, hdk7, hgK H7 ((extN_of s1A).trans x7), hk, hf, A7, ?_⟩
      rw [hrn]
      refine ⟨fun e H8 b s8 B8 => ?_, fun C fl v e d H8 s8 ed => ?_⟩
      · have hf' := row_stands hk hml e
        rw [hbd] at e
        cases ws with
        | cons _ _ => cases e
        | nil =>
          obtain ⟨dx2, fs2, hb, _⟩ := id B8
          refine ⟨kind, hk, b, dx2, fs2, rfl, hb, b, kind, ys, rfl, hk, hf', B8, fun H9 s9 => ⟨_, rfl, fun tt2 ht2 => ?_⟩⟩
          have s10 := (s8.trans s9).trans (same_upd0 (o := .tup [.str "told", .str (rowText kind ys)]) ht2)
          exact ⟨tt2, "told", _, rfl, x7.trans (extN_of s10), tabs_same t7 s10, upd_same, .inl ⟨rfl, hf', rfl, rfl⟩⟩
      · rw [hbd] at e
        cases ws with
        | nil => cases e
        | cons w0 wr =>
          injection e with e
          injection e with e1 e2
          injection e2 with e2 e3
          subst e1 e2 e3
          refine ⟨"name", CN, "name", w0, d, .inl ⟨rfl, rfl, rfl⟩, rfl, rfl, ed, fun H9 rr s9 hr9 => ?_⟩
          have s10 := s8.trans s9
          exact ⟨rr, "name", _, rfl, x7.trans (extN_of s10), tabs_same t7 s10, hr9, .inr ⟨w0, wr, rfl, rfl, rfl⟩⟩
    rintro _ G ⟨rr, wd, u, rfl, xG, tG, hrr, hcase⟩
    have x1G := (extN_of s1A).trans xG
    have A7 := AA.ext xG
    have pen7 := pen_ext penA xG
    have hx7 := x1G _ _ hx1 tup_ne
    have hdk7 := x1G _ _ hdk dk_ne
    have hdu7 := xG _ _ hduA tup_ne
    have hD7 := xG _ _ hDA lst_ne
    have off7 : OffN p H G := fun b o nb e nt => x1G _ _ (off1 b o nb e) nt
    obtain ⟨du', okw, oku, hu⟩ : ∃ d : PyData, OkD 9000 12 (.str wd) ∧ OkD 9000 12 d ∧ ∀ G', Same G G' → Dd K G' u d := by
      rcases hcase with ⟨_, hf', rfl, rfl⟩ | ⟨w0, wr, e, rfl, rfl⟩
      · exact ⟨.str _, word_ok (by decide +kernel), text_ok hk hf', fun _ _ => .str _⟩
      · obtain ⟨d, hv⟩ := hwv u (by rw [e]; exact List.mem_cons_self)
        exact ⟨d, word_ok (by decide +kernel), hv.ok.mono (by decide) (by decide), fun G' s => ((hv.extN x1G).same s).dd⟩
    obtain ⟨k1, k2, k3⟩ := pair_ok okw oku
    have lenS : ∀ v, (ws ++ [v]).length ≤ 5 := fun v => by rw [List.length_append]; show ws.length + 1 ≤ 5; omega
    refine ⟨fun σ G2 => σ = [some (.ref p), some (.ref r), some (.str (PyData.dict ds).shown), some (.ref D), some (.ref D4), some (.ref du), some (.ref rr), some (.ref dc), some (.ref a), none, none, none] ∧ Same G G2, ?_, ?_⟩
    · refine ⟨_, rfl, _, _, rfl, .tup (SqT.of hrr) (.cons (.str _) (.cons (hu _ (Same.refl _)) .nil)), k1, k2, k3, ?_⟩
      refine ⟨_, rfl, by show 0 ≤ sizeLine; decide, fun nl hnl => ⟨D4, nl, _, rfl, rfl, SqL.of (same_upd0 hnl _ _ hD7), SqL.of upd_same, _, rfl, ?_⟩⟩
      have s2 := same_upd0 (o := .lst []) hnl
      rcases hcase with ⟨rfl, hf', rfl, rfl⟩ | ⟨w0, wr, rfl, rfl, rfl⟩
      · refine iteF ?_
        refine ⟨_, rfl, du, kind, ys, rfl, s2 _ _ hdu7, hk, hf', fun G2 s3 => ⟨by show 2 ≤ sizeLine; decide, fun r2 hr2 => ?_⟩⟩
        have s4 := (s2.trans s3).trans (same_upd0 (o := .tup [.str "told", .str (rowText kind ys)]) hr2)
        exact ⟨_, _, rfl, .tup (SqT.of upd_same) (.cons (.str _) (.cons (hu _ s4) .nil)), k1, k2, k3, rfl, _, rfl, ite2 (fun e => absurd e (by simp)) (fun _ => ⟨rfl, s4⟩)⟩
      · refine iteT ?_
        refine ⟨_, rfl, D4, _, 0, u, rfl, rfl, SqL.of (s2 _ _ hD7), atI_nat (j := 0) rfl, by show 2 ≤ sizeLine; decide, fun r2 hr2 => ?_⟩
        have s4 := s2.trans (same_upd0 (o := .tup [.str "name", u]) hr2)
        exact ⟨_, _, rfl, .tup (SqT.of upd_same) (.cons (.str _) (.cons (hu _ s4) .nil)), k1, k2, k3, rfl, _, rfl, ite2 (fun e => absurd e (by simp)) (fun _ => ⟨rfl, s4⟩)⟩
    rintro _ G2 ⟨rfl, s8⟩
    refine ⟨fun σ G3 => σ = [some (.ref p), some (.ref r), some (.str (PyData.dict ds).shown), some (.ref D), some (.ref D4), some (.ref du), some (.ref rr), some (.ref dc), some (.ref a), none, none, none] ∧ Same G2 G3, ?_, ?_⟩
    · refine ⟨_, rfl, by show 0 ≤ sizeLine; decide, fun nl hnl => ⟨D4, nl, _, rfl, rfl, SqL.of (same_upd0 hnl _ _ (s8 _ _ hD7)), SqL.of upd_same, _, rfl, ?_⟩⟩
      have s2 := same_upd0 (o := .lst []) hnl
      rcases hcase with ⟨rfl, hf', rfl, rfl⟩ | ⟨w0, wr, rfl, rfl, rfl⟩
      · refine iteT ?_
        have s82 := s8.trans s2
        have A8 := A7.same s82
        obtain ⟨dx8, fs8, ha8, told8⟩ := id A8
        refine ⟨kind, hk, _, rfl, a, dx8, fs8, rfl, ha8, told8.2.2.2 "renamed" (by simp), _, rfl, a, dc, kvs, kind, xs, rfl, s82 _ _ hdk7, hgK _ (x1G.trans (extN_of s82)), hk, hf, A8, ?_⟩
        rw [hrn]
        refine ⟨fun _ G3 b s9 B9 => ?_, fun C fl v e => by rw [hbd] at e; cases e⟩
        have hdu9 := s9 _ _ (s82 _ _ hdu7)
        refine ⟨_, rfl, du, kind, ys, rfl, hdu9, hk, hml, (fun y hy => (hf'.flat y hy).gv _), fun _ G4 b2 s10 B10 => ?_, fun C fl v e => by rw [hbd] at e; cases e⟩
        have B9' := B9.same s10
        exact rLike_of M.T hk hf' B9' B10 ⟨_, rfl, iteF ⟨rfl, (s2.trans s9).trans s10⟩⟩
      · exact iteF ⟨rfl, s2⟩
    rintro _ G3 ⟨rfl, s9⟩
    have sG := s8.trans s9
    refine ⟨_, rfl, _, rfl, r, kind, xs, rfl, sG _ _ hx7, hk, hf.1, hgv _, fun _ G4 b s10 B => ?_, fun C fl v e => by rw [hbad] at e; cases e⟩
    have s11 := sG.trans s10
    refine rLike_of M.T hk hf (A7.same s11) B ⟨_, rfl, iteT ?_⟩
    refine ⟨_, rfl, _, _, rfl, hdd _ (x1G.trans (extN_of s11)), okD0.1, okD0.2.1, okD0.2.2, _, rfl, rfl, ?_⟩
    rw [decide_eq_true rfl]
    exact q n1 g1 G4 hn1 (fun b o nb e nt => s11 _ _ (off7 b o nb e nt)) (pen7.same s11) (tabs_same tG s11)
end
end K14

namespace K14
open PySem PySem.Spec PyProof.Rows L2 So LamX StX TL
abbrev sLaw : Stmt := topS 65
abbrev lawN : List Str := ["_law_script", "_law_pen_here", "_law_kind", "_law_row"]
theorem scLaw : FnScope lawN ["_law_script"] (defScope sLaw) := ⟨rfl, rfl, rfl, by decide +kernel, rfl, by decide +kernel, by decide +kernel⟩
section
variable {P : Program} {w : World} {K : PySem.W.Frag} {mg : Str → Option Value} {base : Heap}
def spLaw (K : PySem.W.Frag) (T : List (Addr × Str)) : Sp := fun vs H Q _ => ∃ (a : Addr) (ns : List Int), vs = [.ref a] ∧ SqL K H a (ns.map V.int) ∧ Tabs T H ∧ ∀ H', Q (.bl true) H'
theorem ok_law {T : List (Addr × Str)} {f fPen fKi fD fC fMv fRn : Addr} {fd fdPen fdKi fdD fdC fdMv fdRn : FuncData} (F : Fun K "law" "law" sLaw f fd)
    (FPen : Fun K "_law_pen" "_law_pen" sPen fPen fdPen) (bPen : Binds K fdPen ["_law_script"] []) (gPen : mg "_law_pen" = some (.ref fPen)) (GPen : FnOk P w K mg base CX0 1 fPen fdPen ["_law_script"] (spPen K))
    (FK : Fun K "_law_kinds" "_law_kinds" sKinds fKi fdKi) (bK : Binds K fdKi [] []) (gK : mg "_law_kinds" = some (.ref fKi)) (GK : FnOk P w K mg base CX0 1 fKi fdKi [] spKinds)
    (FD : Fun K "_law_drawn" "_law_drawn" sDrawn fD fdD) (bD : Binds K fdD ["_law_pen_here", "_law_crew_here", "_law_kinds_here"] []) (gD : mg "_law_drawn" = some (.ref fD)) (GD : FnOk P w K mg base CX0 4 fD fdD ["_law_pen_here", "_law_crew_here", "_law_kinds_here"] spDrawn)
    (FC : Fun K "_law_crew" "_law_crew" sCrew fC fdC) (bC : Binds K fdC ["_law_pen_here"] []) (gC : mg "_law_crew" = some (.ref fC)) (GC : FnOk P w K mg base CX0 3 fC fdC ["_law_pen_here"] spCrew)
    (FMv : Fun K "_law_move_right" "_law_move_right" sMoveR fMv fdMv) (bMv : Binds K fdMv ["_law_pen_here", "_law_row"] []) (gMv : mg "_law_move_right" = some (.ref fMv)) (GMv : FnG P w K mg base CX0 12 fMv fdMv ["_law_pen_here", "_law_row"] (spMoveR T))
    (FRn : Fun K "_law_rename_right" "_law_rename_right" sRenR fRn fdRn) (bRn : Binds K fdRn ["_law_pen_here", "_law_row"] []) (gRn : mg "_law_rename_right" = some (.ref fRn)) (GRn : FnG P w K mg base CX0 12 fRn fdRn ["_law_pen_here", "_law_row"] (spRenR T)) :
    FnG P w K mg base CX0 14 f fd ["_law_script"] (spLaw K T) := by
  refine fnG_of F scLaw (fun vs H Q E h => ?_) (fun cdv A outer s H vs Q E hg hr h => ?_)
  · obtain ⟨a, ns, rfl, _⟩ := h
    rfl
  · obtain ⟨a, ns, rfl, hS, hT, q⟩ := h
    have hr1 : Room 1 _ := hr.mono (by decide)
    have hr3 : Room 3 _ := hr.mono (by decide)
    have hr4 : Room 4 _ := hr.mono (by decide)
    have hr12 : Room 12 _ := hr.mono (by decide)
    refine ⟨_, (pss_cons (ps_set (i := 1) scLaw.nd rfl (.inl rfl) (pe_call GPen hr1 (by rfl) gPen FPen.kp bPen .nil pass0 (pa_cons (pv 0) pa_nil)))
      (pss_cons (ps_for PassesOwn.never rfl (pi_list (pe_op op_cat (pe_call0 GK hr1 (by rfl) gK FK.kp bK .nil pass0) (pe_call0 GK hr1 (by rfl) gK FK.kp bK .nil pass0))) (pg_name (i := 2) scLaw.nd rfl (Or.inl rfl))
        (pss_cons (ps_set (i := 3) scLaw.nd rfl (.inl rfl) (pe_call GD hr4 (by rfl) gD FD.kp bD .nil pass0 (pa_cons (pv 1) (pa_cons (pe_call GC hr3 (by rfl) gC FC.kp bC .nil pass0 (pa_cons (pv 1) pa_nil)) (pa_cons (pe_lst (pa_cons (pv 2) pa_nil)) pa_nil)))))
        (pss_one (ps_if (PW.pt (pw_or (pt_not (pt_val (pe_callG GMv hg hr12 (by rfl) gMv FMv.kp bMv .nil pass0 (pa_cons (pv 1) (pa_cons (pv 3) pa_nil))))) (pw_or1 (pt_not (pt_val (pe_callG GRn hg hr12 (by rfl) gRn FRn.kp bRn .nil pass0 (pa_cons (pv 1) (pa_cons (pv 3) pa_nil)))))))) (pss_one (ps_ret pe_bl)) pss_nil))))
      (pss_one (ps_ret pe_bl)))), ?_⟩
    refine ⟨_, rfl, a, ns, rfl, hS, fun H1 p l cc s1 pen1 => ?_⟩
    have t1 := tabs_same hT s1
    have hsz := sizeLine_eq
    refine ⟨rfl, fun H5 k1 s5 nk1 hk1 => ⟨rfl, fun H6 k2 s6 nk2 hk2 => ⟨k1, k2, _, _, rfl, rfl, s6 _ _ hk1, hk2, by show 20 ≤ sizeLine; decide, fun kl hkl => ?_⟩⟩⟩
    have s46 := s5.trans s6
    have s7 := s46.trans (same_upd0 (o := .lst (kinds.map V.str ++ kinds.map V.str)) hkl)
    have hkl7 : (L2.upd H6 kl (.lst (kinds.map V.str ++ kinds.map V.str))) kl = some (.lst ((kinds ++ kinds).map V.str)) := by rw [upd_same, List.map_append]
    have pen7 := pen1.same s7
    have nkp := (pen1.same s46).ne hkl
    have t7 := tabs_same t1 s7
    revert hkl7 pen7 t7
    generalize L2.upd H6 kl (.lst (kinds.map V.str ++ kinds.map V.str)) = H7
    intro hkl7 pen7 t7
    clear s7 s46 s5 s6 hk1 hk2 hkl pen1 t1 s1
    refine ⟨kl, rfl, ⟨_, SqL.of hkl7⟩, ?_⟩
    refine for_it walk_list (fun k σ G => ∃ (x2 x3 : Option V) (n' : Nat) (g' : Int), σ = [some (.ref a), some (.ref p), x2, x3] ∧ Pen G p l cc n' g' ∧ n' ≤ 40 * k ∧ Tabs T G ∧ G kl = some (.lst ((kinds ++ kinds).map V.str)))
      ⟨none, none, 0, 0, rfl, pen7, Nat.le_refl _, t7, hkl7⟩ (fun _ _ _ _ ⟨_, _, _, _, _, _, _, _, o⟩ => SqL.of o) ?_ ?_
    · rintro k x σ G G' hk2 ⟨x2, x3, n4, g4, rfl, pen4, hn4, t4, hkl4⟩ ⟨rfl, hxk⟩
      obtain ⟨kind, hk, rfl⟩ : ∃ kind ∈ kinds, x = .str kind := by
        obtain ⟨z, hz, e⟩ := List.mem_map.mp (List.mem_of_getElem? hxk)
        exact ⟨z, by rcases List.mem_append.mp hz with h | h <;> exact h, e.symm⟩
      have hk20 : k < 20 := hk2
      refine ⟨_, rfl, _, rfl, p, l, cc, n4, g4, rfl, pen4, by omega, fun zs cr n5 g5 G5 c1 c2 c3 hn5 off5 pen5 hcr ncp => ?_⟩
      refine ⟨_, rfl, by show 1 ≤ sizeLine; decide, fun kk hkk => ?_⟩
      have s6 := same_upd0 (o := .lst [V.str kind]) hkk
      have nkk := pen5.ne hkk
      refine ⟨p, l, cr, kk, cc, n5, g5, kind, zs, rfl, pen5.same s6, by omega, hk, upd_same, nkk, s6 _ _ hcr, ncp, c1, by omega, c3, fun xs tr n6 g6 G6 hf hn6 off6 pen6 htr => ?_⟩
      have t6 := tabs_off (pen5.same s6).pen (tabs_same (tabs_off pen4.pen t4 off5) s6) off6
      have hkl6 := off6 _ _ nkp (s6 _ _ (off5 _ _ nkp hkl4))
      refine ⟨_, rfl, _, rfl, p, l, tr, cc, n6, g6, kind, xs, rfl, pen6, by omega, htr, hk, hf, t6, fun n7 g7 G7 hn7 off7 pen7 t7' => ⟨_, rfl, iteF ?_⟩⟩
      have htr7 := off7 _ _ (ne_of htr pen6.pen (fun z => nomatch z)) htr tup_ne
      have hkl7' := off7 _ _ nkp hkl6 lst_ne
      refine ⟨_, rfl, _, rfl, p, l, tr, cc, n7, g7, kind, xs, rfl, pen7, by omega, htr7, hk, hf, t7', fun n8 g8 G8 hn8 off8 pen8 t8 => ⟨_, rfl, iteF ?_⟩⟩
      exact ⟨_, _, n8, g8, rfl, pen8, by omega, t8, off8 _ _ nkp hkl7' lst_ne⟩
    · rintro σ G ⟨x2, x3, n4, g4, rfl, _⟩
      exact q G
end
end K14

namespace K14
open PySem PySem.Spec PyProof.Rows L2 So LamX
def strOf? : Value → Option Str
  | .str x _ => some x
  | _ => none
theorem vals_strs : ∀ {ss : List Str} {us : List Value}, us.map strOf? = ss.map some → Vals (ss.map V.str) us
  | [], [], _ => .nil
  | [], _ :: _, h => by simp at h
  | _ :: _, [], h => by simp at h
  | x :: ss, u :: us, h => by
    simp only [List.map_cons, List.cons.injEq] at h
    refine .cons ?_ (vals_strs h.2)
    cases u <;> simp [strOf?] at h
    rename_i y t
    exact ⟨t, by rw [h.1]⟩
theorem tab_seq {K : PySem.W.Frag} {a : Addr} {od : Option Addr} {its : Array Value} {n : Nat} {sl : Array (Option Value)} {ss : List Str} (l : K.lookup a = some ⟨.type "tuple", od, .seq its n, sl⟩) (v : its.toList.map strOf? = ss.map some) (hz : ss.length ≤ 1000) (H : Hp) : SqT K H a (ss.map V.str) := by
  have hv := vals_strs v
  refine .inr ⟨_, its, n, l, rfl, rfl, ?_, hv⟩
  have := hv.length
  rw [List.length_map] at this
  rw [← Array.length_toList, ← this]
  exact Nat.le_trans hz (by decide)
section
variable {K : PySem.W.Frag}
theorem exm_own {D S : Addr} (h2 : PySem.W.isClsIn K S = true) (h3 : PySem.W.typeIn K (.ref S) = some (.type "type")) (h1 : PySem.W.subIn K (.ref S) (.type "BaseException") = some true) (h4 : PySem.W.subIn K (.ref D) (.ref S) = some true) (_ : PySem.W.subIn K (.ref S) (.ref S) = some true) : PySem.W.exmOne K (.ref D) (.ref S) = some true := by
  unfold PySem.W.exmOne PySem.W.kitCls
  unfold PySem.W.isClsIn at h2
  simp [h1, h2, h3, h4]
theorem tab_by {x : Str} {f c P : Addr} {o1 u1 : Value} {o2 u2 : Option Addr} {o3 u3 : Array (Option Value)} {fd : FuncData} {vs : Array Value} (a : PySem.W.nsIn K mainGlobals x = some (some (.ref f))) (l : K.lookup f = some ⟨o1, o2, .func fd, o3⟩) (hc : fd.code = .ref c)
    (lc : K.lookup c = some ⟨u1, u2, .fields vs, u3⟩) (hv : (vs[11]? : Option Value) = some (.ref P)) : PySem.W.tabIn K x = some (c, P) := by
  unfold PySem.W.tabIn
  rw [a]
  simp only [l, hc, lc, hv]
theorem kit_VE {D : Addr} (h : PySem.W.subIn K (.ref D) (.type "ValueError") = some true) : PySem.W.kitOne K (.ref D) (.type "ValueError") = some true := by
  unfold PySem.W.kitOne PySem.W.kitCls
  have e : PySem.W.kitMeta "ValueError" = true := by decide +kernel
  simp [h, e]
theorem kit_own {D C : Addr} {b : Bool} (hc : PySem.W.isClsIn K C = true) (ht : PySem.W.typeIn K (.ref C) = some (.type "type")) (hs : PySem.W.subIn K (.ref D) (.ref C) = some b) (self : PySem.W.subIn K (.ref C) (.ref C) = some true) : PySem.W.kitOne K (.ref D) (.ref C) = some b := by
  by_cases e : D = C
  · subst e
    rw [self] at hs
    rw [kit_self, hs]
  · unfold PySem.W.kitOne PySem.W.kitCls
    unfold PySem.W.isClsIn at hc
    simp [hc, ht, hs, e]
end
abbrev sEO : Stmt := inClass (topS 6) 0
def T2 (P1 P2 : Addr) : List (Addr × Str) := [(P1, (envOfC "_law_move_right" (defScope sMoveR) 0 0 .none).qual ++ "<lambda>"), (P2, (envOfC "_law_rename_right" (defScope sRenR) 0 0 .none).qual ++ "<lambda>")]
theorem t2_mvr {P1 P2 : Addr} (ne : P2 ≠ P1) : ∀ n f' c', ∀ q ∈ T2 P1 P2, q.1 = P1 → q.2 = (envOfC "_law_move_right" (defScope sMoveR) n f' c').qual ++ "<lambda>" := by
  intro n f' c' q hq h
  unfold T2 at hq
  simp only [List.mem_cons, List.not_mem_nil, or_false] at hq
  rcases hq with e | e <;> subst e
  · rfl
  · exact absurd h ne
theorem t2_rnr {P1 P2 : Addr} (ne : P2 ≠ P1) : ∀ n f' c', ∀ q ∈ T2 P1 P2, q.1 = P2 → q.2 = (envOfC "_law_rename_right" (defScope sRenR) n f' c').qual ++ "<lambda>" := by
  intro n f' c' q hq h
  unfold T2 at hq
  simp only [List.mem_cons, List.not_mem_nil, or_false] at hq
  rcases hq with e | e <;> subst e
  · exact absurd h.symm ne
  · rfl
/-- the classes of the kinds -/
def cfOf (C_begun C_setby C_found C_trusted C_passed C_failed C_agreed C_differed C_served C_backed : Addr) : Str → Addr := fun kind => if kind = "begun" then C_begun else if kind = "setby" then C_setby else if kind = "found" then C_found else if kind = "trusted" then C_trusted else if kind = "passed" then C_passed else if kind = "failed" then C_failed else if kind = "agreed" then C_agreed else if kind = "differed" then C_differed else if kind = "served" then C_served else C_backed
theorem cf_all (C_begun C_setby C_found C_trusted C_passed C_failed C_agreed C_differed C_served C_backed : Addr) : cfOf C_begun C_setby C_found C_trusted C_passed C_failed C_agreed C_differed C_served C_backed "begun" = C_begun ∧ cfOf C_begun C_setby C_found C_trusted C_passed C_failed C_agreed C_differed C_served C_backed "setby" = C_setby ∧ cfOf C_begun C_setby C_found C_trusted C_passed C_failed C_agreed C_differed C_served C_backed "found" = C_found ∧ cfOf C_begun C_setby C_found C_trusted C_passed C_failed C_agreed C_differed C_served C_backed "trusted" = C_trusted ∧ cfOf C_begun C_setby C_found C_trusted C_passed C_failed C_agreed C_differed C_served C_backed "passed" = C_passed ∧ cfOf C_begun C_setby C_found C_trusted C_passed C_failed C_agreed C_differed C_served C_backed "failed" = C_failed ∧ cfOf C_begun C_setby C_found C_trusted C_passed C_failed C_agreed C_differed C_served C_backed "agreed" = C_agreed ∧ cfOf C_begun C_setby C_found C_trusted C_passed C_failed C_agreed C_differed C_served C_backed "differed" = C_differed ∧ cfOf C_begun C_setby C_found C_trusted C_passed C_failed C_agreed C_differed C_served C_backed "served" = C_served ∧ cfOf C_begun C_setby C_found C_trusted C_passed C_failed C_agreed C_differed C_served C_backed "backed" = C_backed := by
  refine ⟨?_, ?_, ?_, ?_, ?_, ?_, ?_, ?_, ?_, ?_⟩ <;> unfold cfOf
  · exact if_pos rfl
  · rw [if_neg (by decide +kernel)]; exact if_pos rfl
  · rw [if_neg (by decide +kernel)]; rw [if_neg (by decide +kernel)]; exact if_pos rfl
  · rw [if_neg (by decide +kernel)]; rw [if_neg (by decide +kernel)]; rw [if_neg (by decide +kernel)]; exact if_pos rfl
  · rw [if_neg (by decide +kernel)]; rw [if_neg (by decide +kernel)]; rw [if_neg (by decide +kernel)]; rw [if_neg (by decide +kernel)]; exact if_pos rfl
  · rw [if_neg (by decide +kernel)]; rw [if_neg (by decide +kernel)]; rw [if_neg (by decide +kernel)]; rw [if_neg (by decide +kernel)]; rw [if_neg (by decide +kernel)]; exact if_pos rfl
  · rw [if_neg (by decide +kernel)]; rw [if_neg (by decide +kernel)]; rw [if_neg (by decide +kernel)]; rw [if_neg (by decide +kernel)]; rw [if_neg (by decide +kernel)]; rw [if_neg (by decide +kernel)]; exact if_pos rfl
  · rw [if_neg (by decide +kernel)]; rw [if_neg (by decide +kernel)]; rw [if_neg (by decide +kernel)]; rw [if_neg (by decide +kernel)]; rw [if_neg (by decide +kernel)]; rw [if_neg (by decide +kernel)]; rw [if_neg (by decide +kernel)]; exact if_pos rfl
  · rw [if_neg (by decide +kernel)]; rw [if_neg (by decide +kernel)]; rw [if_neg (by decide +kernel)]; rw [if_neg (by decide +kernel)]; rw [if_neg (by decide +kernel)]; rw [if_neg (by decide +kernel)]; rw [if_neg (by decide +kernel)]; rw [if_neg (by decide +kernel)]; exact if_pos rfl
  · rw [if_neg (by decide +kernel)]; rw [if_neg (by decide +kernel)]; rw [if_neg (by decide +kernel)]; rw [if_neg (by decide +kernel)]; rw [if_neg (by decide +kernel)]; rw [if_neg (by decide +kernel)]; rw [if_neg (by decide +kernel)]; rw [if_neg (by decide +kernel)]; rw [if_neg (by decide +kernel)]
theorem all10 {p : Str → Prop} (h0 : p "begun") (h1 : p "setby") (h2 : p "found") (h3 : p "trusted") (h4 : p "passed") (h5 : p "failed") (h6 : p "agreed") (h7 : p "differed") (h8 : p "served") (h9 : p "backed") : ∀ kind ∈ kinds, p kind := by
  intro kind hk
  unfold kinds at hk
  simp only [List.mem_cons, List.not_mem_nil, or_false] at hk
  rcases hk with h | h | h | h | h | h | h | h | h | h <;> subst h <;> assumption
theorem kb_names {K : PySem.W.Frag} {fd : FuncData} (h : ∀ (s : Shared) (u w : Value), BindsTo s fd ⟨[u], [("names", w)]⟩ [("self", u), ("names", w)]) : KBinds K fd ["self", "names"] ["names"] kText kText := by
  refine ⟨fun s us ws _ hl => ?_, fun {vs us zs ws} r rz => ?_⟩
  · match us, ws, hl with
    | [u], [w], _ => exact h s u w
    | [], _, hl => cases hl
    | [_], [], hl => cases hl
    | [_], _ :: _ :: _, hl => cases hl
    | _ :: _ :: _, _, hl => cases hl
  · cases r with
    | nil => exact .nil
    | cons r1 r =>
      cases r with
      | cons _ _ => exact .nil
      | nil =>
        cases rz with
        | nil => exact .nil
        | cons r2 rz =>
          cases rz with
          | nil => exact .cons r1 (.cons r2 .nil)
          | cons _ _ => exact .nil
theorem all_mk {l : PySem.W.OpenLaw} {w : World} {K : PySem.W.Frag} {h : Heap} {mg : Str → Option Value} {fa fpen fdraw fpick fwords foddn ftick flkinds fdrawn fcrew fnamed fltext flmade fheard fmoved fmvr c_mvr P_mvr flnames frnr c_rnr P_rnr flis flaw fwhole fmoment fisname fcheck fchecked fwordof fmadeRow CR C_begun fbegun freq frstr frlsh frren C_setby fsetby C_found ffound C_trusted ftrusted C_passed fpassed C_failed ffailed C_agreed fagreed ccagreed cdaagreed fmeet C_differed fdiffered ccdiffered cdadiffered C_served fserved ccserved cdaserved C_backed fbacked ccbacked cdabacked aNo aF t_begun t_setby t_found t_trusted t_passed t_failed t_agreed t_differed t_served t_backed CT CN feN CM feM CS feS CO feO : Addr} (X : K.In h) (G : h.Ns mainGlobals mg) (hfa : mg "law" = some (.ref fa))
    {odpen anpen oddraw andraw odpick anpick odwords anwords ododdn anoddn odtick antick odlkinds anlkinds oddrawn andrawn odcrew ancrew odnamed annamed odltext anltext odlmade anlmade odheard anheard odmoved anmoved odmvr anmvr odlnames anlnames odrnr anrnr odlis anlis odlaw anlaw odwhole anwhole odmoment anmoment odisname anisname odcheck ancheck odchecked anchecked odwordof anwordof odmadeRow anmadeRow odbegun anbegun odreq anreq odrstr anrstr odrlsh anrlsh odrren anrren odsetby ansetby odfound anfound odtrusted antrusted odpassed anpassed odfailed anfailed odagreed anagreed cldagreed cddagreed odmeet anmeet oddiffered andiffered clddiffered cdddiffered odserved anserved cldserved cddserved odbacked anbacked cldbacked cddbacked odN odtbegun odtsetby odtfound odttrusted odtpassed odtfailed odtagreed odtdiffered odtserved odtbacked odeN aneN odeM aneM odeS aneS odeO aneO odcmvr odcrnr : Option Addr} {slpen sldraw slpick slwords sloddn sltick sllkinds sldrawn slcrew slnamed slltext sllmade slheard slmoved slmvr sllnames slrnr sllis sllaw slwhole slmoment slisname slcheck slchecked slwordof slmadeRow slbegun slreq slrstr slrlsh slrren slsetby slfound sltrusted slpassed slfailed slagreed cslagreed ccsagreed slmeet sldiffered csldiffered ccsdiffered slserved cslserved ccsserved slbacked cslbacked ccsbacked slN sltbegun sltsetby sltfound slttrusted sltpassed sltfailed sltagreed sltdiffered sltserved sltbacked sleN sleM sleS sleO slcmvr slcrnr : Array (Option Value)} {ocpen kVpen dcpen pmpen ctpen cdpen ocdraw kVdraw dcdraw pmdraw ctdraw cddraw ocpick kVpick dcpick pmpick ctpick cdpick ocwords kVwords dcwords pmwords ctwords cdwords ocoddn kVoddn dcoddn pmoddn ctoddn cdoddn octick kVtick dctick pmtick cttick cdtick oclkinds kVlkinds dclkinds pmlkinds ctlkinds cdlkinds ocdrawn kVdrawn dcdrawn pmdrawn ctdrawn cddrawn occrew kVcrew dccrew pmcrew ctcrew cdcrew ocnamed kVnamed dcnamed pmnamed ctnamed cdnamed ocltext kVltext dcltext pmltext ctltext cdltext oclmade kVlmade dclmade pmlmade ctlmade cdlmade ocheard kVheard dcheard pmheard ctheard cdheard ocmoved kVmoved dcmoved pmmoved ctmoved cdmoved ocmvr kVmvr dcmvr pmmvr ctmvr oclnames kVlnames dclnames pmlnames ctlnames cdlnames ocrnr kVrnr dcrnr pmrnr ctrnr oclis kVlis dclis pmlis ctlis cdlis oclaw kVlaw dclaw pmlaw ctlaw cdlaw ocwhole kVwhole dcwhole pmwhole ctwhole cdwhole ocmoment kVmoment dcmoment pmmoment ctmoment cdmoment ocisname kVisname dcisname pmisname ctisname cdisname occheck kVcheck dccheck pmcheck ctcheck cdcheck occhecked kVchecked dcchecked pmchecked ctchecked cdchecked ocwordof kVwordof dcwordof pmwordof ctwordof cdwordof ocmadeRow kVmadeRow dcmadeRow pmmadeRow ctmadeRow cdmadeRow ocbegun kVbegun dcbegun pmbegun ctbegun cdbegun ocreq kVreq dcreq pmreq ctreq cdreq ocrstr kVrstr dcrstr pmrstr ctrstr cdrstr ocrlsh kVrlsh dcrlsh pmrlsh ctrlsh cdrlsh ocrren kVrren dcrren pmrren ctrren cdrren ocsetby kVsetby dcsetby pmsetby ctsetby cdsetby ocfound kVfound dcfound pmfound ctfound cdfound octrusted kVtrusted dctrusted pmtrusted cttrusted cdtrusted ocpassed kVpassed dcpassed pmpassed ctpassed cdpassed ocfailed kVfailed dcfailed pmfailed ctfailed cdfailed ocagreed kVagreed dcagreed pmagreed ctagreed clagreed cclagreed ocmeet kVmeet dcmeet pmmeet ctmeet cdmeet ocdiffered kVdiffered dcdiffered pmdiffered ctdiffered cldiffered ccldiffered ocserved kVserved dcserved pmserved ctserved clserved cclserved ocbacked kVbacked dcbacked pmbacked ctbacked clbacked cclbacked oceN kVeN dceN pmeN cteN cdeN oceM kVeM dceM pmeM cteM cdeM oceS kVeS dceS pmeS cteS cdeS oceO kVeO dceO pmeO cteO cdeO occmvr occrnr : Value}   {tG tL tA tD : Tok} {itsN : Array Value} {nN nF : Nat} {esF : Array DictEntry} {itsbegun itssetby itsfound itstrusted itspassed itsfailed itsagreed itsdiffered itsserved itsbacked : Array Value} {ntbegun ntsetby ntfound nttrusted ntpassed ntfailed ntagreed ntdiffered ntserved ntbacked : Nat} {vsagreed vsdiffered vsserved vsbacked : Array Value} {fileagreed filediffered fileserved filebacked : Str} {tfagreed tfdiffered tfserved tfbacked : Tok} {cd_agreed cd_differed cd_served cd_backed : ClassData} {vsmvr vsrnr : Array Value} {fo ro : Option Value} {nmN qN : Str} {NN : Addr} {bsN subN : List Value} {snN : List Str} {abN : Bool} {colN : Option Bool} {ddN : Option Addr} {m0N m1N m2N m3N m5N : Option Value} {nmM qM : Str} {NM : Addr} {bsM subM : List Value} {snM : List Str} {abM : Bool} {colM : Option Bool} {ddM : Option Addr} {m0M m1M m2M m3M m5M : Option Value} {nmS qS : Str} {NS : Addr} {bsS subS : List Value} {snS : List Str} {abS : Bool} {colS : Option Bool} {ddS : Option Addr} {m0S m1S m2S m3S m5S : Option Value} {nmO qO : Str} {NO : Addr} {bsO subO : List Value} {snO : List Str} {abO : Bool} {colO : Option Bool} {ddO : Option Addr} {m0O m1O m2O m3O m5O : Option Value}
    (apen : PySem.W.nsIn K mainGlobals "_law_pen" = some (some (.ref fpen)))
    (lpen : K.lookup fpen = some ⟨ocpen, odpen, .func (PySem.W.fnOf "_law_pen" "_law_pen" (defArgs sPen) (defBody sPen) (defScope sPen) .none kVpen dcpen pmpen anpen cdpen ctpen), slpen⟩)
    (cpen : PySem.W.codeIn K cdpen "_law_pen" = true)
    (kpen : PySem.W.keepIn K (.ref fpen) = true)
    (adraw : PySem.W.nsIn K mainGlobals "_law_draw" = some (some (.ref fdraw)))
    (ldraw : K.lookup fdraw = some ⟨ocdraw, oddraw, .func (PySem.W.fnOf "_law_draw" "_law_draw" (defArgs sDraw) (defBody sDraw) (defScope sDraw) .none kVdraw dcdraw pmdraw andraw cddraw ctdraw), sldraw⟩)
    (cdraw : PySem.W.codeIn K cddraw "_law_draw" = true)
    (kdraw : PySem.W.keepIn K (.ref fdraw) = true)
    (apick : PySem.W.nsIn K mainGlobals "_law_pick" = some (some (.ref fpick)))
    (lpick : K.lookup fpick = some ⟨ocpick, odpick, .func (PySem.W.fnOf "_law_pick" "_law_pick" (defArgs sPick) (defBody sPick) (defScope sPick) .none kVpick dcpick pmpick anpick cdpick ctpick), slpick⟩)
    (cpick : PySem.W.codeIn K cdpick "_law_pick" = true)
    (kpick : PySem.W.keepIn K (.ref fpick) = true)
    (awords : PySem.W.nsIn K mainGlobals "_law_words" = some (some (.ref fwords)))
    (lwords : K.lookup fwords = some ⟨ocwords, odwords, .func (PySem.W.fnOf "_law_words" "_law_words" (defArgs sWords) (defBody sWords) (defScope sWords) .none kVwords dcwords pmwords anwords cdwords ctwords), slwords⟩)
    (cwords : PySem.W.codeIn K cdwords "_law_words" = true)
    (kwords : PySem.W.keepIn K (.ref fwords) = true)
    (aoddn : PySem.W.nsIn K mainGlobals "_law_odd_name" = some (some (.ref foddn)))
    (loddn : K.lookup foddn = some ⟨ocoddn, ododdn, .func (PySem.W.fnOf "_law_odd_name" "_law_odd_name" (defArgs sOddN) (defBody sOddN) (defScope sOddN) .none kVoddn dcoddn pmoddn anoddn cdoddn ctoddn), sloddn⟩)
    (coddn : PySem.W.codeIn K cdoddn "_law_odd_name" = true)
    (koddn : PySem.W.keepIn K (.ref foddn) = true)
    (atick : PySem.W.nsIn K mainGlobals "_law_tick" = some (some (.ref ftick)))
    (ltick : K.lookup ftick = some ⟨octick, odtick, .func (PySem.W.fnOf "_law_tick" "_law_tick" (defArgs sTick) (defBody sTick) (defScope sTick) .none kVtick dctick pmtick antick cdtick cttick), sltick⟩)
    (ctick : PySem.W.codeIn K cdtick "_law_tick" = true)
    (ktick : PySem.W.keepIn K (.ref ftick) = true)
    (alkinds : PySem.W.nsIn K mainGlobals "_law_kinds" = some (some (.ref flkinds)))
    (llkinds : K.lookup flkinds = some ⟨oclkinds, odlkinds, .func (PySem.W.fnOf "_law_kinds" "_law_kinds" (defArgs sKinds) (defBody sKinds) (defScope sKinds) .none kVlkinds dclkinds pmlkinds anlkinds cdlkinds ctlkinds), sllkinds⟩)
    (clkinds : PySem.W.codeIn K cdlkinds "_law_kinds" = true)
    (klkinds : PySem.W.keepIn K (.ref flkinds) = true)
    (adrawn : PySem.W.nsIn K mainGlobals "_law_drawn" = some (some (.ref fdrawn)))
    (ldrawn : K.lookup fdrawn = some ⟨ocdrawn, oddrawn, .func (PySem.W.fnOf "_law_drawn" "_law_drawn" (defArgs sDrawn) (defBody sDrawn) (defScope sDrawn) .none kVdrawn dcdrawn pmdrawn andrawn cddrawn ctdrawn), sldrawn⟩)
    (cdrawn : PySem.W.codeIn K cddrawn "_law_drawn" = true)
    (kdrawn : PySem.W.keepIn K (.ref fdrawn) = true)
    (acrew : PySem.W.nsIn K mainGlobals "_law_crew" = some (some (.ref fcrew)))
    (lcrew : K.lookup fcrew = some ⟨occrew, odcrew, .func (PySem.W.fnOf "_law_crew" "_law_crew" (defArgs sCrew) (defBody sCrew) (defScope sCrew) .none kVcrew dccrew pmcrew ancrew cdcrew ctcrew), slcrew⟩)
    (ccrew : PySem.W.codeIn K cdcrew "_law_crew" = true)
    (kcrew : PySem.W.keepIn K (.ref fcrew) = true)
    (anamed : PySem.W.nsIn K mainGlobals "_law_named" = some (some (.ref fnamed)))
    (lnamed : K.lookup fnamed = some ⟨ocnamed, odnamed, .func (PySem.W.fnOf "_law_named" "_law_named" (defArgs sNamed) (defBody sNamed) (defScope sNamed) .none kVnamed dcnamed pmnamed annamed cdnamed ctnamed), slnamed⟩)
    (cnamed : PySem.W.codeIn K cdnamed "_law_named" = true)
    (knamed : PySem.W.keepIn K (.ref fnamed) = true)
    (altext : PySem.W.nsIn K mainGlobals "_law_text" = some (some (.ref fltext)))
    (lltext : K.lookup fltext = some ⟨ocltext, odltext, .func (PySem.W.fnOf "_law_text" "_law_text" (defArgs sText) (defBody sText) (defScope sText) .none kVltext dcltext pmltext anltext cdltext ctltext), slltext⟩)
    (cltext : PySem.W.codeIn K cdltext "_law_text" = true)
    (kltext : PySem.W.keepIn K (.ref fltext) = true)
    (almade : PySem.W.nsIn K mainGlobals "_law_made" = some (some (.ref flmade)))
    (llmade : K.lookup flmade = some ⟨oclmade, odlmade, .func (PySem.W.fnOf "_law_made" "_law_made" (defArgs sMade) (defBody sMade) (defScope sMade) .none kVlmade dclmade pmlmade anlmade cdlmade ctlmade), sllmade⟩)
    (clmade : PySem.W.codeIn K cdlmade "_law_made" = true)
    (klmade : PySem.W.keepIn K (.ref flmade) = true)
    (aheard : PySem.W.nsIn K mainGlobals "_law_heard" = some (some (.ref fheard)))
    (lheard : K.lookup fheard = some ⟨ocheard, odheard, .func (PySem.W.fnOf "_law_heard" "_law_heard" (defArgs sHeard) (defBody sHeard) (defScope sHeard) .none kVheard dcheard pmheard anheard cdheard ctheard), slheard⟩)
    (cheard : PySem.W.codeIn K cdheard "_law_heard" = true)
    (kheard : PySem.W.keepIn K (.ref fheard) = true)
    (amoved : PySem.W.nsIn K mainGlobals "_law_moved" = some (some (.ref fmoved)))
    (lmoved : K.lookup fmoved = some ⟨ocmoved, odmoved, .func (PySem.W.fnOf "_law_moved" "_law_moved" (defArgs sMoved) (defBody sMoved) (defScope sMoved) .none kVmoved dcmoved pmmoved anmoved cdmoved ctmoved), slmoved⟩)
    (cmoved : PySem.W.codeIn K cdmoved "_law_moved" = true)
    (kmoved : PySem.W.keepIn K (.ref fmoved) = true)
    (amvr : PySem.W.nsIn K mainGlobals "_law_move_right" = some (some (.ref fmvr)))
    (lmvr : K.lookup fmvr = some ⟨ocmvr, odmvr, .func (PySem.W.fnOf "_law_move_right" "_law_move_right" (defArgs sMoveR) (defBody sMoveR) (defScope sMoveR) .none kVmvr dcmvr pmmvr anmvr (.ref c_mvr) ctmvr), slmvr⟩)
    (cmvr : PySem.W.codeIn K (.ref c_mvr) "_law_move_right" = true)
    (kmvr : PySem.W.keepIn K (.ref fmvr) = true)
    (alnames : PySem.W.nsIn K mainGlobals "_law_names" = some (some (.ref flnames)))
    (llnames : K.lookup flnames = some ⟨oclnames, odlnames, .func (PySem.W.fnOf "_law_names" "_law_names" (defArgs sNames) (defBody sNames) (defScope sNames) .none kVlnames dclnames pmlnames anlnames cdlnames ctlnames), sllnames⟩)
    (clnames : PySem.W.codeIn K cdlnames "_law_names" = true)
    (klnames : PySem.W.keepIn K (.ref flnames) = true)
    (arnr : PySem.W.nsIn K mainGlobals "_law_rename_right" = some (some (.ref frnr)))
    (lrnr : K.lookup frnr = some ⟨ocrnr, odrnr, .func (PySem.W.fnOf "_law_rename_right" "_law_rename_right" (defArgs sRenR) (defBody sRenR) (defScope sRenR) .none kVrnr dcrnr pmrnr anrnr (.ref c_rnr) ctrnr), slrnr⟩)
    (crnr : PySem.W.codeIn K (.ref c_rnr) "_law_rename_right" = true)
    (krnr : PySem.W.keepIn K (.ref frnr) = true)
    (alis : PySem.W.nsIn K mainGlobals "_law_is_name" = some (some (.ref flis)))
    (llis : K.lookup flis = some ⟨oclis, odlis, .func (PySem.W.fnOf "_law_is_name" "_law_is_name" (defArgs sLIs) (defBody sLIs) (defScope sLIs) .none kVlis dclis pmlis anlis cdlis ctlis), sllis⟩)
    (clis : PySem.W.codeIn K cdlis "_law_is_name" = true)
    (klis : PySem.W.keepIn K (.ref flis) = true)
    (alaw : PySem.W.nsIn K mainGlobals "law" = some (some (.ref flaw)))
    (llaw : K.lookup flaw = some ⟨oclaw, odlaw, .func (PySem.W.fnOf "law" "law" (defArgs sLaw) (defBody sLaw) (defScope sLaw) .none kVlaw dclaw pmlaw anlaw cdlaw ctlaw), sllaw⟩)
    (claw : PySem.W.codeIn K cdlaw "law" = true)
    (klaw : PySem.W.keepIn K (.ref flaw) = true)
    (awhole : PySem.W.nsIn K mainGlobals "is_whole" = some (some (.ref fwhole)))
    (lwhole : K.lookup fwhole = some ⟨ocwhole, odwhole, .func (PySem.W.fnOf "is_whole" "is_whole" (defArgs sWhole) (defBody sWhole) (defScope sWhole) .none kVwhole dcwhole pmwhole anwhole cdwhole ctwhole), slwhole⟩)
    (cwhole : PySem.W.codeIn K cdwhole "is_whole" = true)
    (kwhole : PySem.W.keepIn K (.ref fwhole) = true)
    (amoment : PySem.W.nsIn K mainGlobals "is_moment" = some (some (.ref fmoment)))
    (lmoment : K.lookup fmoment = some ⟨ocmoment, odmoment, .func (PySem.W.fnOf "is_moment" "is_moment" (defArgs sMoment) (defBody sMoment) (defScope sMoment) .none kVmoment dcmoment pmmoment anmoment cdmoment ctmoment), slmoment⟩)
    (cmoment : PySem.W.codeIn K cdmoment "is_moment" = true)
    (kmoment : PySem.W.keepIn K (.ref fmoment) = true)
    (aisname : PySem.W.nsIn K mainGlobals "is_name" = some (some (.ref fisname)))
    (lisname : K.lookup fisname = some ⟨ocisname, odisname, .func (PySem.W.fnOf "is_name" "is_name" (defArgs sName) (defBody sName) (defScope sName) .none kVisname dcisname pmisname anisname cdisname ctisname), slisname⟩)
    (cisname : PySem.W.codeIn K cdisname "is_name" = true)
    (kisname : PySem.W.keepIn K (.ref fisname) = true)
    (acheck : PySem.W.nsIn K mainGlobals "check_form" = some (some (.ref fcheck)))
    (lcheck : K.lookup fcheck = some ⟨occheck, odcheck, .func (PySem.W.fnOf "check_form" "check_form" (defArgs sCheck) (defBody sCheck) (defScope sCheck) .none kVcheck dccheck pmcheck ancheck cdcheck ctcheck), slcheck⟩)
    (ccheck : PySem.W.codeIn K cdcheck "check_form" = true)
    (kcheck : PySem.W.keepIn K (.ref fcheck) = true)
    (achecked : PySem.W.nsIn K mainGlobals "checked" = some (some (.ref fchecked)))
    (lchecked : K.lookup fchecked = some ⟨occhecked, odchecked, .func (PySem.W.fnOf "checked" "checked" (defArgs sChecked) (defBody sChecked) (defScope sChecked) .none kVchecked dcchecked pmchecked anchecked cdchecked ctchecked), slchecked⟩)
    (cchecked : PySem.W.codeIn K cdchecked "checked" = true)
    (kchecked : PySem.W.keepIn K (.ref fchecked) = true)
    (awordof : PySem.W.nsIn K mainGlobals "word_of" = some (some (.ref fwordof)))
    (lwordof : K.lookup fwordof = some ⟨ocwordof, odwordof, .func (PySem.W.fnOf "word_of" "word_of" (defArgs sWordOf) (defBody sWordOf) (defScope sWordOf) .none kVwordof dcwordof pmwordof anwordof cdwordof ctwordof), slwordof⟩)
    (cwordof : PySem.W.codeIn K cdwordof "word_of" = true)
    (kwordof : PySem.W.keepIn K (.ref fwordof) = true)
    (amadeRow : PySem.W.nsIn K mainGlobals "made_row" = some (some (.ref fmadeRow)))
    (lmadeRow : K.lookup fmadeRow = some ⟨ocmadeRow, odmadeRow, .func (PySem.W.fnOf "made_row" "made_row" (defArgs sMadeRow) (defBody sMadeRow) (defScope sMadeRow) .none kVmadeRow dcmadeRow pmmadeRow anmadeRow cdmadeRow ctmadeRow), slmadeRow⟩)
    (cmadeRow : PySem.W.codeIn K cdmadeRow "made_row" = true)
    (kmadeRow : PySem.W.keepIn K (.ref fmadeRow) = true)
    (thn : PySem.W.specialIn K (.builtin "object.__class__") "__get__" = some (some (.builtin "getset_descriptor.__get__")))
    (tht : PySem.W.takesIn K (.builtin "object.__class__") = some true)
    (gR : PySem.W.nsIn K mainGlobals "Row" = some (some (.ref CR)))
    (icR : PySem.W.isClsIn K CR = true)
    (tyR : PySem.W.typeIn K (.ref CR) = some (.type "type"))
    (sbR : PySem.W.subIn K (.ref CR) (.ref CR) = some true)
    (aC_begun : PySem.W.nsIn K mainGlobals "Begun" = some (some (.ref C_begun)))
    (pgC_begun : PySem.W.plainGet K C_begun Str.empty = true)
    (hdC_begun : PySem.W.hasDictIn K C_begun = true)
    (poC_begun : PySem.W.plainOver K C_begun = true)
    (saC_begun : PySem.W.findIn K (.ref C_begun) "__setattr__" = some (some (.builtin "object.__setattr__")))
    (mkC_begun : PySem.W.makesIn K C_begun = true)
    (kcC_begun : PySem.W.keepIn K (.ref C_begun) = true)
    (nC_begun__told : PySem.W.findIn K (.ref C_begun) "_told" = some none)
    (nC_begun_kind : PySem.W.findIn K (.ref C_begun) "kind" = some none)
    (nC_begun_tool : PySem.W.findIn K (.ref C_begun) "tool" = some none)
    (nC_begun_moment : PySem.W.findIn K (.ref C_begun) "moment" = some none)
    (abegun : PySem.W.findIn K (.ref C_begun) "__init__" = some (some (.ref fbegun)))
    (ibegun : PySem.W.isFn K (.ref fbegun) = true)
    (lbegun : K.lookup fbegun = some ⟨ocbegun, odbegun, .func (PySem.W.fnOf "__init__" "Begun.__init__" (defArgs sBegun) (defBody sBegun) (defScope sBegun) .none kVbegun dcbegun pmbegun anbegun cdbegun ctbegun), slbegun⟩)
    (cbegun : PySem.W.codeIn K cdbegun "Begun.__init__" = true)
    (kbegun : PySem.W.keepIn K (.ref fbegun) = true)
    (thaC_begun : PySem.W.findIn K (.ref C_begun) "__class__" = some (some (.builtin "object.__class__")))
    (thmC_begun : PySem.W.mroIn K C_begun (.type "object") = some true)
    (areqC_begun : PySem.W.findIn K (.ref C_begun) "__eq__" = some (some (.ref freq)))
    (ireq : PySem.W.isFn K (.ref freq) = true)
    (lreq : K.lookup freq = some ⟨ocreq, odreq, .func (PySem.W.fnOf "__eq__" "Row.__eq__" (defArgs sEqR) (defBody sEqR) (defScope sEqR) .none kVreq dcreq pmreq anreq cdreq ctreq), slreq⟩)
    (creq : PySem.W.codeIn K cdreq "Row.__eq__" = true)
    (kreq : PySem.W.keepIn K (.ref freq) = true)
    (arstrC_begun : PySem.W.findIn K (.ref C_begun) "__str__" = some (some (.ref frstr)))
    (irstr : PySem.W.isFn K (.ref frstr) = true)
    (lrstr : K.lookup frstr = some ⟨ocrstr, odrstr, .func (PySem.W.fnOf "__str__" "Row.__str__" (defArgs sStrR) (defBody sStrR) (defScope sStrR) .none kVrstr dcrstr pmrstr anrstr cdrstr ctrstr), slrstr⟩)
    (crstr : PySem.W.codeIn K cdrstr "Row.__str__" = true)
    (krstr : PySem.W.keepIn K (.ref frstr) = true)
    (arlshC_begun : PySem.W.findIn K (.ref C_begun) "__lshift__" = some (some (.ref frlsh)))
    (irlsh : PySem.W.isFn K (.ref frlsh) = true)
    (lrlsh : K.lookup frlsh = some ⟨ocrlsh, odrlsh, .func (PySem.W.fnOf "__lshift__" "Row.__lshift__" (defArgs sLsh) (defBody sLsh) (defScope sLsh) .none kVrlsh dcrlsh pmrlsh anrlsh cdrlsh ctrlsh), slrlsh⟩)
    (crlsh : PySem.W.codeIn K cdrlsh "Row.__lshift__" = true)
    (krlsh : PySem.W.keepIn K (.ref frlsh) = true)
    (arrenC_begun : PySem.W.findIn K (.ref C_begun) "renamed" = some (some (.ref frren)))
    (irren : PySem.W.isFn K (.ref frren) = true)
    (lrren : K.lookup frren = some ⟨ocrren, odrren, .func (PySem.W.fnOf "renamed" "Row.renamed" (defArgs sRen) (defBody sRen) (defScope sRen) .none kVrren dcrren pmrren anrren cdrren ctrren), slrren⟩)
    (crren : PySem.W.codeIn K cdrren "Row.renamed" = true)
    (krren : PySem.W.keepIn K (.ref frren) = true)
    (sRC_begun : PySem.W.subIn K (.ref C_begun) (.ref CR) = some true)
    (sfC_begun : PySem.W.selfFirst K C_begun = true)
    (rlC_begun : PySem.W.findIn K (.ref C_begun) "__rlshift__" = some none)
    (aC_setby : PySem.W.nsIn K mainGlobals "SetBy" = some (some (.ref C_setby)))
    (pgC_setby : PySem.W.plainGet K C_setby Str.empty = true)
    (hdC_setby : PySem.W.hasDictIn K C_setby = true)
    (poC_setby : PySem.W.plainOver K C_setby = true)
    (saC_setby : PySem.W.findIn K (.ref C_setby) "__setattr__" = some (some (.builtin "object.__setattr__")))
    (mkC_setby : PySem.W.makesIn K C_setby = true)
    (kcC_setby : PySem.W.keepIn K (.ref C_setby) = true)
    (nC_setby__told : PySem.W.findIn K (.ref C_setby) "_told" = some none)
    (nC_setby_kind : PySem.W.findIn K (.ref C_setby) "kind" = some none)
    (nC_setby_tool : PySem.W.findIn K (.ref C_setby) "tool" = some none)
    (nC_setby_moment : PySem.W.findIn K (.ref C_setby) "moment" = some none)
    (nC_setby_by : PySem.W.findIn K (.ref C_setby) "by" = some none)
    (asetby : PySem.W.findIn K (.ref C_setby) "__init__" = some (some (.ref fsetby)))
    (isetby : PySem.W.isFn K (.ref fsetby) = true)
    (lsetby : K.lookup fsetby = some ⟨ocsetby, odsetby, .func (PySem.W.fnOf "__init__" "SetBy.__init__" (defArgs sSetBy) (defBody sSetBy) (defScope sSetBy) .none kVsetby dcsetby pmsetby ansetby cdsetby ctsetby), slsetby⟩)
    (csetby : PySem.W.codeIn K cdsetby "SetBy.__init__" = true)
    (ksetby : PySem.W.keepIn K (.ref fsetby) = true)
    (thaC_setby : PySem.W.findIn K (.ref C_setby) "__class__" = some (some (.builtin "object.__class__")))
    (thmC_setby : PySem.W.mroIn K C_setby (.type "object") = some true)
    (areqC_setby : PySem.W.findIn K (.ref C_setby) "__eq__" = some (some (.ref freq)))
    (arstrC_setby : PySem.W.findIn K (.ref C_setby) "__str__" = some (some (.ref frstr)))
    (arlshC_setby : PySem.W.findIn K (.ref C_setby) "__lshift__" = some (some (.ref frlsh)))
    (arrenC_setby : PySem.W.findIn K (.ref C_setby) "renamed" = some (some (.ref frren)))
    (sRC_setby : PySem.W.subIn K (.ref C_setby) (.ref CR) = some true)
    (sfC_setby : PySem.W.selfFirst K C_setby = true)
    (rlC_setby : PySem.W.findIn K (.ref C_setby) "__rlshift__" = some none)
    (aC_found : PySem.W.nsIn K mainGlobals "Found" = some (some (.ref C_found)))
    (pgC_found : PySem.W.plainGet K C_found Str.empty = true)
    (hdC_found : PySem.W.hasDictIn K C_found = true)
    (poC_found : PySem.W.plainOver K C_found = true)
    (saC_found : PySem.W.findIn K (.ref C_found) "__setattr__" = some (some (.builtin "object.__setattr__")))
    (mkC_found : PySem.W.makesIn K C_found = true)
    (kcC_found : PySem.W.keepIn K (.ref C_found) = true)
    (nC_found__told : PySem.W.findIn K (.ref C_found) "_told" = some none)
    (nC_found_kind : PySem.W.findIn K (.ref C_found) "kind" = some none)
    (nC_found_tool : PySem.W.findIn K (.ref C_found) "tool" = some none)
    (nC_found_moment : PySem.W.findIn K (.ref C_found) "moment" = some none)
    (nC_found_is_sound : PySem.W.findIn K (.ref C_found) "is_sound" = some none)
    (afound : PySem.W.findIn K (.ref C_found) "__init__" = some (some (.ref ffound)))
    (ifound : PySem.W.isFn K (.ref ffound) = true)
    (lfound : K.lookup ffound = some ⟨ocfound, odfound, .func (PySem.W.fnOf "__init__" "Found.__init__" (defArgs sFound) (defBody sFound) (defScope sFound) .none kVfound dcfound pmfound anfound cdfound ctfound), slfound⟩)
    (cfound : PySem.W.codeIn K cdfound "Found.__init__" = true)
    (kfound : PySem.W.keepIn K (.ref ffound) = true)
    (thaC_found : PySem.W.findIn K (.ref C_found) "__class__" = some (some (.builtin "object.__class__")))
    (thmC_found : PySem.W.mroIn K C_found (.type "object") = some true)
    (areqC_found : PySem.W.findIn K (.ref C_found) "__eq__" = some (some (.ref freq)))
    (arstrC_found : PySem.W.findIn K (.ref C_found) "__str__" = some (some (.ref frstr)))
    (arlshC_found : PySem.W.findIn K (.ref C_found) "__lshift__" = some (some (.ref frlsh)))
    (arrenC_found : PySem.W.findIn K (.ref C_found) "renamed" = some (some (.ref frren)))
    (sRC_found : PySem.W.subIn K (.ref C_found) (.ref CR) = some true)
    (sfC_found : PySem.W.selfFirst K C_found = true)
    (rlC_found : PySem.W.findIn K (.ref C_found) "__rlshift__" = some none)
    (aC_trusted : PySem.W.nsIn K mainGlobals "Trusted" = some (some (.ref C_trusted)))
    (pgC_trusted : PySem.W.plainGet K C_trusted Str.empty = true)
    (hdC_trusted : PySem.W.hasDictIn K C_trusted = true)
    (poC_trusted : PySem.W.plainOver K C_trusted = true)
    (saC_trusted : PySem.W.findIn K (.ref C_trusted) "__setattr__" = some (some (.builtin "object.__setattr__")))
    (mkC_trusted : PySem.W.makesIn K C_trusted = true)
    (kcC_trusted : PySem.W.keepIn K (.ref C_trusted) = true)
    (nC_trusted__told : PySem.W.findIn K (.ref C_trusted) "_told" = some none)
    (nC_trusted_kind : PySem.W.findIn K (.ref C_trusted) "kind" = some none)
    (nC_trusted_tool : PySem.W.findIn K (.ref C_trusted) "tool" = some none)
    (atrusted : PySem.W.findIn K (.ref C_trusted) "__init__" = some (some (.ref ftrusted)))
    (itrusted : PySem.W.isFn K (.ref ftrusted) = true)
    (ltrusted : K.lookup ftrusted = some ⟨octrusted, odtrusted, .func (PySem.W.fnOf "__init__" "Trusted.__init__" (defArgs sTrusted) (defBody sTrusted) (defScope sTrusted) .none kVtrusted dctrusted pmtrusted antrusted cdtrusted cttrusted), sltrusted⟩)
    (ctrusted : PySem.W.codeIn K cdtrusted "Trusted.__init__" = true)
    (ktrusted : PySem.W.keepIn K (.ref ftrusted) = true)
    (thaC_trusted : PySem.W.findIn K (.ref C_trusted) "__class__" = some (some (.builtin "object.__class__")))
    (thmC_trusted : PySem.W.mroIn K C_trusted (.type "object") = some true)
    (areqC_trusted : PySem.W.findIn K (.ref C_trusted) "__eq__" = some (some (.ref freq)))
    (arstrC_trusted : PySem.W.findIn K (.ref C_trusted) "__str__" = some (some (.ref frstr)))
    (arlshC_trusted : PySem.W.findIn K (.ref C_trusted) "__lshift__" = some (some (.ref frlsh)))
    (arrenC_trusted : PySem.W.findIn K (.ref C_trusted) "renamed" = some (some (.ref frren)))
    (sRC_trusted : PySem.W.subIn K (.ref C_trusted) (.ref CR) = some true)
    (sfC_trusted : PySem.W.selfFirst K C_trusted = true)
    (rlC_trusted : PySem.W.findIn K (.ref C_trusted) "__rlshift__" = some none)
    (aC_passed : PySem.W.nsIn K mainGlobals "Passed" = some (some (.ref C_passed)))
    (pgC_passed : PySem.W.plainGet K C_passed Str.empty = true)
    (hdC_passed : PySem.W.hasDictIn K C_passed = true)
    (poC_passed : PySem.W.plainOver K C_passed = true)
    (saC_passed : PySem.W.findIn K (.ref C_passed) "__setattr__" = some (some (.builtin "object.__setattr__")))
    (mkC_passed : PySem.W.makesIn K C_passed = true)
    (kcC_passed : PySem.W.keepIn K (.ref C_passed) = true)
    (nC_passed__told : PySem.W.findIn K (.ref C_passed) "_told" = some none)
    (nC_passed_kind : PySem.W.findIn K (.ref C_passed) "kind" = some none)
    (nC_passed_tool : PySem.W.findIn K (.ref C_passed) "tool" = some none)
    (nC_passed_moment : PySem.W.findIn K (.ref C_passed) "moment" = some none)
    (nC_passed_by : PySem.W.findIn K (.ref C_passed) "by" = some none)
    (apassed : PySem.W.findIn K (.ref C_passed) "__init__" = some (some (.ref fpassed)))
    (ipassed : PySem.W.isFn K (.ref fpassed) = true)
    (lpassed : K.lookup fpassed = some ⟨ocpassed, odpassed, .func (PySem.W.fnOf "__init__" "Passed.__init__" (defArgs sPassed) (defBody sPassed) (defScope sPassed) .none kVpassed dcpassed pmpassed anpassed cdpassed ctpassed), slpassed⟩)
    (cpassed : PySem.W.codeIn K cdpassed "Passed.__init__" = true)
    (kpassed : PySem.W.keepIn K (.ref fpassed) = true)
    (thaC_passed : PySem.W.findIn K (.ref C_passed) "__class__" = some (some (.builtin "object.__class__")))
    (thmC_passed : PySem.W.mroIn K C_passed (.type "object") = some true)
    (areqC_passed : PySem.W.findIn K (.ref C_passed) "__eq__" = some (some (.ref freq)))
    (arstrC_passed : PySem.W.findIn K (.ref C_passed) "__str__" = some (some (.ref frstr)))
    (arlshC_passed : PySem.W.findIn K (.ref C_passed) "__lshift__" = some (some (.ref frlsh)))
    (arrenC_passed : PySem.W.findIn K (.ref C_passed) "renamed" = some (some (.ref frren)))
    (sRC_passed : PySem.W.subIn K (.ref C_passed) (.ref CR) = some true)
    (sfC_passed : PySem.W.selfFirst K C_passed = true)
    (rlC_passed : PySem.W.findIn K (.ref C_passed) "__rlshift__" = some none)
    (aC_failed : PySem.W.nsIn K mainGlobals "Failed" = some (some (.ref C_failed)))
    (pgC_failed : PySem.W.plainGet K C_failed Str.empty = true)
    (hdC_failed : PySem.W.hasDictIn K C_failed = true)
    (poC_failed : PySem.W.plainOver K C_failed = true)
    (saC_failed : PySem.W.findIn K (.ref C_failed) "__setattr__" = some (some (.builtin "object.__setattr__")))
    (mkC_failed : PySem.W.makesIn K C_failed = true)
    (kcC_failed : PySem.W.keepIn K (.ref C_failed) = true)
    (nC_failed__told : PySem.W.findIn K (.ref C_failed) "_told" = some none)
    (nC_failed_kind : PySem.W.findIn K (.ref C_failed) "kind" = some none)
    (nC_failed_tool : PySem.W.findIn K (.ref C_failed) "tool" = some none)
    (nC_failed_moment : PySem.W.findIn K (.ref C_failed) "moment" = some none)
    (nC_failed_by : PySem.W.findIn K (.ref C_failed) "by" = some none)
    (afailed : PySem.W.findIn K (.ref C_failed) "__init__" = some (some (.ref ffailed)))
    (ifailed : PySem.W.isFn K (.ref ffailed) = true)
    (lfailed : K.lookup ffailed = some ⟨ocfailed, odfailed, .func (PySem.W.fnOf "__init__" "Failed.__init__" (defArgs sFailed) (defBody sFailed) (defScope sFailed) .none kVfailed dcfailed pmfailed anfailed cdfailed ctfailed), slfailed⟩)
    (cfailed : PySem.W.codeIn K cdfailed "Failed.__init__" = true)
    (kfailed : PySem.W.keepIn K (.ref ffailed) = true)
    (thaC_failed : PySem.W.findIn K (.ref C_failed) "__class__" = some (some (.builtin "object.__class__")))
    (thmC_failed : PySem.W.mroIn K C_failed (.type "object") = some true)
    (areqC_failed : PySem.W.findIn K (.ref C_failed) "__eq__" = some (some (.ref freq)))
    (arstrC_failed : PySem.W.findIn K (.ref C_failed) "__str__" = some (some (.ref frstr)))
    (arlshC_failed : PySem.W.findIn K (.ref C_failed) "__lshift__" = some (some (.ref frlsh)))
    (arrenC_failed : PySem.W.findIn K (.ref C_failed) "renamed" = some (some (.ref frren)))
    (sRC_failed : PySem.W.subIn K (.ref C_failed) (.ref CR) = some true)
    (sfC_failed : PySem.W.selfFirst K C_failed = true)
    (rlC_failed : PySem.W.findIn K (.ref C_failed) "__rlshift__" = some none)
    (aC_agreed : PySem.W.nsIn K mainGlobals "Agreed" = some (some (.ref C_agreed)))
    (pgC_agreed : PySem.W.plainGet K C_agreed Str.empty = true)
    (hdC_agreed : PySem.W.hasDictIn K C_agreed = true)
    (poC_agreed : PySem.W.plainOver K C_agreed = true)
    (saC_agreed : PySem.W.findIn K (.ref C_agreed) "__setattr__" = some (some (.builtin "object.__setattr__")))
    (mkC_agreed : PySem.W.makesIn K C_agreed = true)
    (kcC_agreed : PySem.W.keepIn K (.ref C_agreed) = true)
    (nC_agreed__told : PySem.W.findIn K (.ref C_agreed) "_told" = some none)
    (nC_agreed_kind : PySem.W.findIn K (.ref C_agreed) "kind" = some none)
    (nC_agreed_one : PySem.W.findIn K (.ref C_agreed) "one" = some none)
    (nC_agreed_moment : PySem.W.findIn K (.ref C_agreed) "moment" = some none)
    (nC_agreed_other : PySem.W.findIn K (.ref C_agreed) "other" = some none)
    (nC_agreed_later : PySem.W.findIn K (.ref C_agreed) "later" = some none)
    (aagreed : PySem.W.findIn K (.ref C_agreed) "__init__" = some (some (.ref fagreed)))
    (iagreed : PySem.W.isFn K (.ref fagreed) = true)
    (lagreed : K.lookup fagreed = some ⟨ocagreed, odagreed, .func (PySem.W.ksFn "__init__" "Agreed.__init__" (defArgs sAgreed) (defBody sAgreed) (defScope sAgreed) .none kVagreed dcagreed pmagreed anagreed (.ref cdaagreed) ctagreed ccagreed), slagreed⟩)
    (cagreed : PySem.W.codeIn K (.ref cdaagreed) "Agreed.__init__" = true)
    (kagreed : PySem.W.keepIn K (.ref fagreed) = true)
    (eagreed : K.lookup ccagreed = some ⟨clagreed, cldagreed, .cell (some (.ref C_agreed)), cslagreed⟩)
    (dagreed : K.lookup cdaagreed = some ⟨cclagreed, cddagreed, .fields vsagreed, ccsagreed⟩)
    (vagreed : (vsagreed[2]? : Option Value) = some (.str fileagreed tfagreed))
    (wagreed : ((l.prog.main.file : Str) == fileagreed) = true)
    (yagreed : PySem.W.mroIn K C_agreed (.ref C_agreed) = some true)
    (zagreed : PySem.W.clsIn K C_agreed = some cd_agreed)
    (xagreed : PySem.W.ks_superIn K C_agreed C_agreed "__init__" = some (some (.ref fmeet)))
    (lmeet : K.lookup fmeet = some ⟨ocmeet, odmeet, .func (PySem.W.fnOf "__init__" "Meeting.__init__" (defArgs sMeeting) (defBody sMeeting) (defScope sMeeting) .none kVmeet dcmeet pmmeet anmeet cdmeet ctmeet), slmeet⟩)
    (cmeet : PySem.W.codeIn K cdmeet "Meeting.__init__" = true)
    (kmeet : PySem.W.keepIn K (.ref fmeet) = true)
    (tmeet : PySem.W.typeIn K (.ref fmeet) = some (.type "function"))
    (fnmeet : PySem.W.fnIn K fmeet = true)
    (thaC_agreed : PySem.W.findIn K (.ref C_agreed) "__class__" = some (some (.builtin "object.__class__")))
    (thmC_agreed : PySem.W.mroIn K C_agreed (.type "object") = some true)
    (areqC_agreed : PySem.W.findIn K (.ref C_agreed) "__eq__" = some (some (.ref freq)))
    (arstrC_agreed : PySem.W.findIn K (.ref C_agreed) "__str__" = some (some (.ref frstr)))
    (arlshC_agreed : PySem.W.findIn K (.ref C_agreed) "__lshift__" = some (some (.ref frlsh)))
    (arrenC_agreed : PySem.W.findIn K (.ref C_agreed) "renamed" = some (some (.ref frren)))
    (sRC_agreed : PySem.W.subIn K (.ref C_agreed) (.ref CR) = some true)
    (sfC_agreed : PySem.W.selfFirst K C_agreed = true)
    (rlC_agreed : PySem.W.findIn K (.ref C_agreed) "__rlshift__" = some none)
    (aC_differed : PySem.W.nsIn K mainGlobals "Differed" = some (some (.ref C_differed)))
    (pgC_differed : PySem.W.plainGet K C_differed Str.empty = true)
    (hdC_differed : PySem.W.hasDictIn K C_differed = true)
    (poC_differed : PySem.W.plainOver K C_differed = true)
    (saC_differed : PySem.W.findIn K (.ref C_differed) "__setattr__" = some (some (.builtin "object.__setattr__")))
    (mkC_differed : PySem.W.makesIn K C_differed = true)
    (kcC_differed : PySem.W.keepIn K (.ref C_differed) = true)
    (nC_differed__told : PySem.W.findIn K (.ref C_differed) "_told" = some none)
    (nC_differed_kind : PySem.W.findIn K (.ref C_differed) "kind" = some none)
    (nC_differed_one : PySem.W.findIn K (.ref C_differed) "one" = some none)
    (nC_differed_moment : PySem.W.findIn K (.ref C_differed) "moment" = some none)
    (nC_differed_other : PySem.W.findIn K (.ref C_differed) "other" = some none)
    (nC_differed_later : PySem.W.findIn K (.ref C_differed) "later" = some none)
    (adiffered : PySem.W.findIn K (.ref C_differed) "__init__" = some (some (.ref fdiffered)))
    (idiffered : PySem.W.isFn K (.ref fdiffered) = true)
    (ldiffered : K.lookup fdiffered = some ⟨ocdiffered, oddiffered, .func (PySem.W.ksFn "__init__" "Differed.__init__" (defArgs sDiffered) (defBody sDiffered) (defScope sDiffered) .none kVdiffered dcdiffered pmdiffered andiffered (.ref cdadiffered) ctdiffered ccdiffered), sldiffered⟩)
    (cdiffered : PySem.W.codeIn K (.ref cdadiffered) "Differed.__init__" = true)
    (kdiffered : PySem.W.keepIn K (.ref fdiffered) = true)
    (ediffered : K.lookup ccdiffered = some ⟨cldiffered, clddiffered, .cell (some (.ref C_differed)), csldiffered⟩)
    (ddiffered : K.lookup cdadiffered = some ⟨ccldiffered, cdddiffered, .fields vsdiffered, ccsdiffered⟩)
    (vdiffered : (vsdiffered[2]? : Option Value) = some (.str filediffered tfdiffered))
    (wdiffered : ((l.prog.main.file : Str) == filediffered) = true)
    (ydiffered : PySem.W.mroIn K C_differed (.ref C_differed) = some true)
    (zdiffered : PySem.W.clsIn K C_differed = some cd_differed)
    (xdiffered : PySem.W.ks_superIn K C_differed C_differed "__init__" = some (some (.ref fmeet)))
    (thaC_differed : PySem.W.findIn K (.ref C_differed) "__class__" = some (some (.builtin "object.__class__")))
    (thmC_differed : PySem.W.mroIn K C_differed (.type "object") = some true)
    (areqC_differed : PySem.W.findIn K (.ref C_differed) "__eq__" = some (some (.ref freq)))
    (arstrC_differed : PySem.W.findIn K (.ref C_differed) "__str__" = some (some (.ref frstr)))
    (arlshC_differed : PySem.W.findIn K (.ref C_differed) "__lshift__" = some (some (.ref frlsh)))
    (arrenC_differed : PySem.W.findIn K (.ref C_differed) "renamed" = some (some (.ref frren)))
    (sRC_differed : PySem.W.subIn K (.ref C_differed) (.ref CR) = some true)
    (sfC_differed : PySem.W.selfFirst K C_differed = true)
    (rlC_differed : PySem.W.findIn K (.ref C_differed) "__rlshift__" = some none)
    (aC_served : PySem.W.nsIn K mainGlobals "Served" = some (some (.ref C_served)))
    (pgC_served : PySem.W.plainGet K C_served Str.empty = true)
    (hdC_served : PySem.W.hasDictIn K C_served = true)
    (poC_served : PySem.W.plainOver K C_served = true)
    (saC_served : PySem.W.findIn K (.ref C_served) "__setattr__" = some (some (.builtin "object.__setattr__")))
    (mkC_served : PySem.W.makesIn K C_served = true)
    (kcC_served : PySem.W.keepIn K (.ref C_served) = true)
    (nC_served__told : PySem.W.findIn K (.ref C_served) "_told" = some none)
    (nC_served_kind : PySem.W.findIn K (.ref C_served) "kind" = some none)
    (nC_served_one : PySem.W.findIn K (.ref C_served) "one" = some none)
    (nC_served_moment : PySem.W.findIn K (.ref C_served) "moment" = some none)
    (nC_served_other : PySem.W.findIn K (.ref C_served) "other" = some none)
    (nC_served_later : PySem.W.findIn K (.ref C_served) "later" = some none)
    (aserved : PySem.W.findIn K (.ref C_served) "__init__" = some (some (.ref fserved)))
    (iserved : PySem.W.isFn K (.ref fserved) = true)
    (lserved : K.lookup fserved = some ⟨ocserved, odserved, .func (PySem.W.ksFn "__init__" "Served.__init__" (defArgs sServed) (defBody sServed) (defScope sServed) .none kVserved dcserved pmserved anserved (.ref cdaserved) ctserved ccserved), slserved⟩)
    (cserved : PySem.W.codeIn K (.ref cdaserved) "Served.__init__" = true)
    (kserved : PySem.W.keepIn K (.ref fserved) = true)
    (eserved : K.lookup ccserved = some ⟨clserved, cldserved, .cell (some (.ref C_served)), cslserved⟩)
    (dserved : K.lookup cdaserved = some ⟨cclserved, cddserved, .fields vsserved, ccsserved⟩)
    (vserved : (vsserved[2]? : Option Value) = some (.str fileserved tfserved))
    (wserved : ((l.prog.main.file : Str) == fileserved) = true)
    (yserved : PySem.W.mroIn K C_served (.ref C_served) = some true)
    (zserved : PySem.W.clsIn K C_served = some cd_served)
    (xserved : PySem.W.ks_superIn K C_served C_served "__init__" = some (some (.ref fmeet)))
    (thaC_served : PySem.W.findIn K (.ref C_served) "__class__" = some (some (.builtin "object.__class__")))
    (thmC_served : PySem.W.mroIn K C_served (.type "object") = some true)
    (areqC_served : PySem.W.findIn K (.ref C_served) "__eq__" = some (some (.ref freq)))
    (arstrC_served : PySem.W.findIn K (.ref C_served) "__str__" = some (some (.ref frstr)))
    (arlshC_served : PySem.W.findIn K (.ref C_served) "__lshift__" = some (some (.ref frlsh)))
    (arrenC_served : PySem.W.findIn K (.ref C_served) "renamed" = some (some (.ref frren)))
    (sRC_served : PySem.W.subIn K (.ref C_served) (.ref CR) = some true)
    (sfC_served : PySem.W.selfFirst K C_served = true)
    (rlC_served : PySem.W.findIn K (.ref C_served) "__rlshift__" = some none)
    (aC_backed : PySem.W.nsIn K mainGlobals "Backed" = some (some (.ref C_backed)))
    (pgC_backed : PySem.W.plainGet K C_backed Str.empty = true)
    (hdC_backed : PySem.W.hasDictIn K C_backed = true)
    (poC_backed : PySem.W.plainOver K C_backed = true)
    (saC_backed : PySem.W.findIn K (.ref C_backed) "__setattr__" = some (some (.builtin "object.__setattr__")))
    (mkC_backed : PySem.W.makesIn K C_backed = true)
    (kcC_backed : PySem.W.keepIn K (.ref C_backed) = true)
    (nC_backed__told : PySem.W.findIn K (.ref C_backed) "_told" = some none)
    (nC_backed_kind : PySem.W.findIn K (.ref C_backed) "kind" = some none)
    (nC_backed_one : PySem.W.findIn K (.ref C_backed) "one" = some none)
    (nC_backed_moment : PySem.W.findIn K (.ref C_backed) "moment" = some none)
    (nC_backed_other : PySem.W.findIn K (.ref C_backed) "other" = some none)
    (nC_backed_later : PySem.W.findIn K (.ref C_backed) "later" = some none)
    (abacked : PySem.W.findIn K (.ref C_backed) "__init__" = some (some (.ref fbacked)))
    (ibacked : PySem.W.isFn K (.ref fbacked) = true)
    (lbacked : K.lookup fbacked = some ⟨ocbacked, odbacked, .func (PySem.W.ksFn "__init__" "Backed.__init__" (defArgs sBacked) (defBody sBacked) (defScope sBacked) .none kVbacked dcbacked pmbacked anbacked (.ref cdabacked) ctbacked ccbacked), slbacked⟩)
    (cbacked : PySem.W.codeIn K (.ref cdabacked) "Backed.__init__" = true)
    (kbacked : PySem.W.keepIn K (.ref fbacked) = true)
    (ebacked : K.lookup ccbacked = some ⟨clbacked, cldbacked, .cell (some (.ref C_backed)), cslbacked⟩)
    (dbacked : K.lookup cdabacked = some ⟨cclbacked, cddbacked, .fields vsbacked, ccsbacked⟩)
    (vbacked : (vsbacked[2]? : Option Value) = some (.str filebacked tfbacked))
    (wbacked : ((l.prog.main.file : Str) == filebacked) = true)
    (ybacked : PySem.W.mroIn K C_backed (.ref C_backed) = some true)
    (zbacked : PySem.W.clsIn K C_backed = some cd_backed)
    (xbacked : PySem.W.ks_superIn K C_backed C_backed "__init__" = some (some (.ref fmeet)))
    (thaC_backed : PySem.W.findIn K (.ref C_backed) "__class__" = some (some (.builtin "object.__class__")))
    (thmC_backed : PySem.W.mroIn K C_backed (.type "object") = some true)
    (areqC_backed : PySem.W.findIn K (.ref C_backed) "__eq__" = some (some (.ref freq)))
    (arstrC_backed : PySem.W.findIn K (.ref C_backed) "__str__" = some (some (.ref frstr)))
    (arlshC_backed : PySem.W.findIn K (.ref C_backed) "__lshift__" = some (some (.ref frlsh)))
    (arrenC_backed : PySem.W.findIn K (.ref C_backed) "renamed" = some (some (.ref frren)))
    (sRC_backed : PySem.W.subIn K (.ref C_backed) (.ref CR) = some true)
    (sfC_backed : PySem.W.selfFirst K C_backed = true)
    (rlC_backed : PySem.W.findIn K (.ref C_backed) "__rlshift__" = some none)
    (hi1 : PySem.W.findIn K (.type "int") "__lshift__" = some fo)
    (hi2 : PySem.W.findIn K (.type "int") "__rlshift__" = some ro)
    (opq : PySem.W.nsIn K PySem.cStatics "thirdparty.any" = some none)
    (tops : (l.prog.main.scope.names.lookup ("super" : Str)).isSome = false)
    (gG : PySem.W.nsIn K mainGlobals "GREATEST" = some (some (.int 1000000000000000000000000000000 tG)))
    (gL : PySem.W.nsIn K mainGlobals "LONGEST_NAME" = some (some (.int 8 tL)))
    (gA : PySem.W.nsIn K mainGlobals "LETTERS" = some (some (.str letters tA)))
    (gD : PySem.W.nsIn K mainGlobals "DIGITS" = some (some (.str digits tD)))
    (gN : PySem.W.nsIn K mainGlobals "NO_NAMES" = some (some (.ref aNo)))
    (lN : K.lookup aNo = some ⟨.type "tuple", odN, .seq itsN nN, slN⟩)
    (vN : itsN.toList.map strOf? = noNames.map some)
    (gF : PySem.W.nsIn K mainGlobals "FORMS" = some (some (.ref aF)))
    (lF : K.lookup aF = some ⟨.type "dict", none, .dict esF nF, #[]⟩)
    (klF : PySem.W.KeysLit w.params esF.toList)
    (gtbegun : PySem.W.nsIn K aF "begun" = some (some (.ref t_begun)))
    (ltbegun : K.lookup t_begun = some ⟨.type "tuple", odtbegun, .seq itsbegun ntbegun, sltbegun⟩)
    (vtbegun : itsbegun.toList.map strOf? = (formsOf "begun").map some)
    (gtsetby : PySem.W.nsIn K aF "setby" = some (some (.ref t_setby)))
    (ltsetby : K.lookup t_setby = some ⟨.type "tuple", odtsetby, .seq itssetby ntsetby, sltsetby⟩)
    (vtsetby : itssetby.toList.map strOf? = (formsOf "setby").map some)
    (gtfound : PySem.W.nsIn K aF "found" = some (some (.ref t_found)))
    (ltfound : K.lookup t_found = some ⟨.type "tuple", odtfound, .seq itsfound ntfound, sltfound⟩)
    (vtfound : itsfound.toList.map strOf? = (formsOf "found").map some)
    (gttrusted : PySem.W.nsIn K aF "trusted" = some (some (.ref t_trusted)))
    (lttrusted : K.lookup t_trusted = some ⟨.type "tuple", odttrusted, .seq itstrusted nttrusted, slttrusted⟩)
    (vttrusted : itstrusted.toList.map strOf? = (formsOf "trusted").map some)
    (gtpassed : PySem.W.nsIn K aF "passed" = some (some (.ref t_passed)))
    (ltpassed : K.lookup t_passed = some ⟨.type "tuple", odtpassed, .seq itspassed ntpassed, sltpassed⟩)
    (vtpassed : itspassed.toList.map strOf? = (formsOf "passed").map some)
    (gtfailed : PySem.W.nsIn K aF "failed" = some (some (.ref t_failed)))
    (ltfailed : K.lookup t_failed = some ⟨.type "tuple", odtfailed, .seq itsfailed ntfailed, sltfailed⟩)
    (vtfailed : itsfailed.toList.map strOf? = (formsOf "failed").map some)
    (gtagreed : PySem.W.nsIn K aF "agreed" = some (some (.ref t_agreed)))
    (ltagreed : K.lookup t_agreed = some ⟨.type "tuple", odtagreed, .seq itsagreed ntagreed, sltagreed⟩)
    (vtagreed : itsagreed.toList.map strOf? = (formsOf "agreed").map some)
    (gtdiffered : PySem.W.nsIn K aF "differed" = some (some (.ref t_differed)))
    (ltdiffered : K.lookup t_differed = some ⟨.type "tuple", odtdiffered, .seq itsdiffered ntdiffered, sltdiffered⟩)
    (vtdiffered : itsdiffered.toList.map strOf? = (formsOf "differed").map some)
    (gtserved : PySem.W.nsIn K aF "served" = some (some (.ref t_served)))
    (ltserved : K.lookup t_served = some ⟨.type "tuple", odtserved, .seq itsserved ntserved, sltserved⟩)
    (vtserved : itsserved.toList.map strOf? = (formsOf "served").map some)
    (gtbacked : PySem.W.nsIn K aF "backed" = some (some (.ref t_backed)))
    (ltbacked : K.lookup t_backed = some ⟨.type "tuple", odtbacked, .seq itsbacked ntbacked, sltbacked⟩)
    (vtbacked : itsbacked.toList.map strOf? = (formsOf "backed").map some)
    (b_isinstance : PySem.W.nsIn K mainGlobals "isinstance" = some none)
    (b_int : PySem.W.nsIn K mainGlobals "int" = some none)
    (b_bool : PySem.W.nsIn K mainGlobals "bool" = some none)
    (b_str : PySem.W.nsIn K mainGlobals "str" = some none)
    (b_len : PySem.W.nsIn K mainGlobals "len" = some none)
    (b_all : PySem.W.nsIn K mainGlobals "all" = some none)
    (b_list : PySem.W.nsIn K mainGlobals "list" = some none)
    (b_tuple : PySem.W.nsIn K mainGlobals "tuple" = some none)
    (b_abs : PySem.W.nsIn K mainGlobals "abs" = some none)
    (b_repr : PySem.W.nsIn K mainGlobals "repr" = some none)
    (b_zip : PySem.W.nsIn K mainGlobals "zip" = some none)
    (b_ValueError : PySem.W.nsIn K mainGlobals "ValueError" = some none)
    (b_super : PySem.W.nsIn K mainGlobals "super" = some none)
    (aT : PySem.W.nsIn K mainGlobals "TillError" = some (some (.ref CT)))
    (iT : PySem.W.isClsIn K CT = true)
    (tT : PySem.W.typeIn K (.ref CT) = some (.type "type"))
    (eT : PySem.W.subIn K (.ref CT) (.type "BaseException") = some true)
    (sT : PySem.W.subIn K (.ref CT) (.ref CT) = some true)
    (aN : PySem.W.nsIn K mainGlobals "BadName" = some (some (.ref CN)))
    (xN : K.lookup CN = some (excClassObj nmN qN CN NN bsN [.ref CT, .type "ValueError", .type "Exception", .type "BaseException", .type "object"] true snN subN abN colN ddN m0N m1N m2N m3N m5N "ValueError.__new__"))
    (seN : PySem.W.findIn K (.ref CN) "__setattr__" = some (some (.builtin "object.__setattr__")))
    (geN : PySem.W.findIn K (.ref CN) "__getattribute__" = some (some (.builtin "BaseException.__getattribute__")))
    (heN : PySem.W.findIn K (.ref CN) "__getattr__" = some none)
    (neN : PySem.W.findIn K (.ref CN) "name" = some none)
    (aeN : PySem.W.findIn K (.ref CN) "__init__" = some (some (.ref feN)))
    (teN : PySem.W.typeIn K (.ref feN) = some (.type "function"))
    (leN : K.lookup feN = some ⟨oceN, odeN, .func (PySem.W.fnOf "__init__" "BadName.__init__" (defArgs sEN) (defBody sEN) (defScope sEN) .none kVeN dceN pmeN aneN cdeN cteN), sleN⟩)
    (ceN : PySem.W.codeIn K cdeN "BadName.__init__" = true)
    (keN : PySem.W.keepIn K (.ref feN) = true)
    (kkeN : PySem.W.keepIn K (.ref CN) = true)
    (exeN : PySem.W.subIn K (.ref CN) (.type "BaseException") = some true)
    (tyeN : PySem.W.typeIn K (.ref CN) = some (.type "type"))
    (hdeN : PySem.W.hasDictIn K CN = true)
    (iceN : PySem.W.isClsIn K CN = true)
    (veeN : PySem.W.subIn K (.ref CN) (.type "ValueError") = some true)
    (uteN : PySem.W.subIn K (.ref CN) (.ref CT) = some true)
    (caeN : PySem.W.findIn K (.ref CN) "__class__" = some (some (.builtin "object.__class__")))
    (cmeN : PySem.W.mroIn K CN (.type "object") = some true)
    (aM : PySem.W.nsIn K mainGlobals "BadMoment" = some (some (.ref CM)))
    (xM : K.lookup CM = some (excClassObj nmM qM CM NM bsM [.ref CT, .type "ValueError", .type "Exception", .type "BaseException", .type "object"] true snM subM abM colM ddM m0M m1M m2M m3M m5M "ValueError.__new__"))
    (seM : PySem.W.findIn K (.ref CM) "__setattr__" = some (some (.builtin "object.__setattr__")))
    (geM : PySem.W.findIn K (.ref CM) "__getattribute__" = some (some (.builtin "BaseException.__getattribute__")))
    (heM : PySem.W.findIn K (.ref CM) "__getattr__" = some none)
    (neM : PySem.W.findIn K (.ref CM) "moment" = some none)
    (aeM : PySem.W.findIn K (.ref CM) "__init__" = some (some (.ref feM)))
    (teM : PySem.W.typeIn K (.ref feM) = some (.type "function"))
    (leM : K.lookup feM = some ⟨oceM, odeM, .func (PySem.W.fnOf "__init__" "BadMoment.__init__" (defArgs sEM) (defBody sEM) (defScope sEM) .none kVeM dceM pmeM aneM cdeM cteM), sleM⟩)
    (ceM : PySem.W.codeIn K cdeM "BadMoment.__init__" = true)
    (keM : PySem.W.keepIn K (.ref feM) = true)
    (kkeM : PySem.W.keepIn K (.ref CM) = true)
    (exeM : PySem.W.subIn K (.ref CM) (.type "BaseException") = some true)
    (tyeM : PySem.W.typeIn K (.ref CM) = some (.type "type"))
    (hdeM : PySem.W.hasDictIn K CM = true)
    (iceM : PySem.W.isClsIn K CM = true)
    (veeM : PySem.W.subIn K (.ref CM) (.type "ValueError") = some true)
    (uteM : PySem.W.subIn K (.ref CM) (.ref CT) = some true)
    (caeM : PySem.W.findIn K (.ref CM) "__class__" = some (some (.builtin "object.__class__")))
    (cmeM : PySem.W.mroIn K CM (.type "object") = some true)
    (aS : PySem.W.nsIn K mainGlobals "BadSaying" = some (some (.ref CS)))
    (xS : K.lookup CS = some (excClassObj nmS qS CS NS bsS [.ref CT, .type "ValueError", .type "Exception", .type "BaseException", .type "object"] true snS subS abS colS ddS m0S m1S m2S m3S m5S "ValueError.__new__"))
    (seS : PySem.W.findIn K (.ref CS) "__setattr__" = some (some (.builtin "object.__setattr__")))
    (geS : PySem.W.findIn K (.ref CS) "__getattribute__" = some (some (.builtin "BaseException.__getattribute__")))
    (heS : PySem.W.findIn K (.ref CS) "__getattr__" = some none)
    (neS : PySem.W.findIn K (.ref CS) "value" = some none)
    (aeS : PySem.W.findIn K (.ref CS) "__init__" = some (some (.ref feS)))
    (teS : PySem.W.typeIn K (.ref feS) = some (.type "function"))
    (leS : K.lookup feS = some ⟨oceS, odeS, .func (PySem.W.fnOf "__init__" "BadSaying.__init__" (defArgs sES) (defBody sES) (defScope sES) .none kVeS dceS pmeS aneS cdeS cteS), sleS⟩)
    (ceS : PySem.W.codeIn K cdeS "BadSaying.__init__" = true)
    (keS : PySem.W.keepIn K (.ref feS) = true)
    (kkeS : PySem.W.keepIn K (.ref CS) = true)
    (exeS : PySem.W.subIn K (.ref CS) (.type "BaseException") = some true)
    (tyeS : PySem.W.typeIn K (.ref CS) = some (.type "type"))
    (hdeS : PySem.W.hasDictIn K CS = true)
    (iceS : PySem.W.isClsIn K CS = true)
    (veeS : PySem.W.subIn K (.ref CS) (.type "ValueError") = some true)
    (uteS : PySem.W.subIn K (.ref CS) (.ref CT) = some true)
    (caeS : PySem.W.findIn K (.ref CS) "__class__" = some (some (.builtin "object.__class__")))
    (cmeS : PySem.W.mroIn K CS (.type "object") = some true)
    (aO : PySem.W.nsIn K mainGlobals "NoTool" = some (some (.ref CO)))
    (xO : K.lookup CO = some (excClassObj nmO qO CO NO bsO [.ref CT, .type "ValueError", .type "Exception", .type "BaseException", .type "object"] true snO subO abO colO ddO m0O m1O m2O m3O m5O "ValueError.__new__"))
    (seO : PySem.W.findIn K (.ref CO) "__setattr__" = some (some (.builtin "object.__setattr__")))
    (geO : PySem.W.findIn K (.ref CO) "__getattribute__" = some (some (.builtin "BaseException.__getattribute__")))
    (heO : PySem.W.findIn K (.ref CO) "__getattr__" = some none)
    (neO : PySem.W.findIn K (.ref CO) "tool" = some none)
    (aeO : PySem.W.findIn K (.ref CO) "__init__" = some (some (.ref feO)))
    (teO : PySem.W.typeIn K (.ref feO) = some (.type "function"))
    (leO : K.lookup feO = some ⟨oceO, odeO, .func (PySem.W.fnOf "__init__" "NoTool.__init__" (defArgs sEO) (defBody sEO) (defScope sEO) .none kVeO dceO pmeO aneO cdeO cteO), sleO⟩)
    (ceO : PySem.W.codeIn K cdeO "NoTool.__init__" = true)
    (keO : PySem.W.keepIn K (.ref feO) = true)
    (kkeO : PySem.W.keepIn K (.ref CO) = true)
    (exeO : PySem.W.subIn K (.ref CO) (.type "BaseException") = some true)
    (tyeO : PySem.W.typeIn K (.ref CO) = some (.type "type"))
    (hdeO : PySem.W.hasDictIn K CO = true)
    (iceO : PySem.W.isClsIn K CO = true)
    (veeO : PySem.W.subIn K (.ref CO) (.type "ValueError") = some true)
    (uteO : PySem.W.subIn K (.ref CO) (.ref CT) = some true)
    (caeO : PySem.W.findIn K (.ref CO) "__class__" = some (some (.builtin "object.__class__")))
    (cmeO : PySem.W.mroIn K CO (.type "object") = some true)
    (uNN : PySem.W.subIn K (.ref CN) (.ref CN) = some true)
    (uNM : PySem.W.subIn K (.ref CN) (.ref CM) = some false)
    (uNO : PySem.W.subIn K (.ref CN) (.ref CO) = some false)
    (uMN : PySem.W.subIn K (.ref CM) (.ref CN) = some false)
    (uMM : PySem.W.subIn K (.ref CM) (.ref CM) = some true)
    (uMO : PySem.W.subIn K (.ref CM) (.ref CO) = some false)
    (uON : PySem.W.subIn K (.ref CO) (.ref CN) = some false)
    (uOM : PySem.W.subIn K (.ref CO) (.ref CM) = some false)
    (uOO : PySem.W.subIn K (.ref CO) (.ref CO) = some true)
    (lcmvr : K.lookup c_mvr = some ⟨occmvr, odcmvr, .fields vsmvr, slcmvr⟩)
    (vcmvr : (vsmvr[11]? : Option Value) = some (.ref P_mvr))
    (nTmvr : K.lookup P_mvr = none)
    (lcrnr : K.lookup c_rnr = some ⟨occrnr, odcrnr, .fields vsrnr, slcrnr⟩)
    (vcrnr : (vsrnr[11]? : Option Value) = some (.ref P_rnr))
    (nTrnr : K.lookup P_rnr = none)
    (nePP : P_rnr ≠ P_mvr)
    : ∃ (fd : FuncData) (c1 P1 c2 P2 : Addr), PySem.W.tabIn K "_law_move_right" = some (c1, P1) ∧ K.lookup P1 = none ∧ PySem.W.tabIn K "_law_rename_right" = some (c2, P2) ∧ K.lookup P2 = none ∧ (∀ (s : Shared) (v : Value), BindsTo s fd ⟨[v], []⟩ [("_law_script", v)]) ∧
      ∀ base : Heap, K.In base → base.Ns mainGlobals mg → (∀ q ∈ [(c1, P1), (c2, P2)], TabB base mg q.1 q.2) → FnG l.prog w K mg base CX0 14 fa fd ["_law_script"] (spLaw K (T2 P1 P2)) := by
  have e := hfa.symm.trans (PySem.W.mg_of X G alaw)
  cases e
  have g1 := fun {n : Str} {v : Value} (e : PySem.W.nsIn K mainGlobals n = some (some v)) => PySem.W.mg_of X G e
  have g0 := fun {n : Str} (e : PySem.W.nsIn K mainGlobals n = some none) => PySem.W.mg_none_of X G e
  have F_pen := fun_mk (st := sPen) lpen cpen kpen
  have F_draw := fun_mk (st := sDraw) ldraw cdraw kdraw
  have F_pick := fun_mk (st := sPick) lpick cpick kpick
  have F_words := fun_mk (st := sWords) lwords cwords kwords
  have F_oddn := fun_mk (st := sOddN) loddn coddn koddn
  have F_tick := fun_mk (st := sTick) ltick ctick ktick
  have F_lkinds := fun_mk (st := sKinds) llkinds clkinds klkinds
  have F_drawn := fun_mk (st := sDrawn) ldrawn cdrawn kdrawn
  have F_crew := fun_mk (st := sCrew) lcrew ccrew kcrew
  have F_named := fun_mk (st := sNamed) lnamed cnamed knamed
  have F_ltext := fun_mk (st := sText) lltext cltext kltext
  have F_lmade := fun_mk (st := sMade) llmade clmade klmade
  have F_heard := fun_mk (st := sHeard) lheard cheard kheard
  have F_moved := fun_mk (st := sMoved) lmoved cmoved kmoved
  have F_mvr := fun_mk (st := sMoveR) lmvr cmvr kmvr
  have F_lnames := fun_mk (st := sNames) llnames clnames klnames
  have F_rnr := fun_mk (st := sRenR) lrnr crnr krnr
  have F_lis := fun_mk (st := sLIs) llis clis klis
  have F_law := fun_mk (st := sLaw) llaw claw klaw
  have F_whole := fun_mk (st := sWhole) lwhole cwhole kwhole
  have F_moment := fun_mk (st := sMoment) lmoment cmoment kmoment
  have F_isname := fun_mk (st := sName) lisname cisname kisname
  have F_check := fun_mk (st := sCheck) lcheck ccheck kcheck
  have F_checked := fun_mk (st := sChecked) lchecked cchecked kchecked
  have F_wordof := fun_mk (st := sWordOf) lwordof cwordof kwordof
  have F_madeRow := fun_mk (st := sMadeRow) lmadeRow cmadeRow kmadeRow
  have F_begun := fun_mk (st := sBegun) lbegun cbegun kbegun
  have F_req := fun_mk (st := sEqR) lreq creq kreq
  have F_rstr := fun_mk (st := sStrR) lrstr crstr krstr
  have F_rlsh := fun_mk (st := sLsh) lrlsh crlsh krlsh
  have F_rren := fun_mk (st := sRen) lrren crren krren
  have F_setby := fun_mk (st := sSetBy) lsetby csetby ksetby
  have F_found := fun_mk (st := sFound) lfound cfound kfound
  have F_trusted := fun_mk (st := sTrusted) ltrusted ctrusted ktrusted
  have F_passed := fun_mk (st := sPassed) lpassed cpassed kpassed
  have F_failed := fun_mk (st := sFailed) lfailed cfailed kfailed
  have F_meet := fun_mk (st := sMeeting) lmeet cmeet kmeet
  have F_eN := fun_mk (st := sEN) leN ceN keN
  have F_eM := fun_mk (st := sEM) leM ceM keM
  have F_eS := fun_mk (st := sES) leS ceS keS
  have F_eO := fun_mk (st := sEO) leO ceO keO
  have b_pen_ := F_pen.binds (ps := ["_law_script"]) fun _ _ _ _ _ _ us hl => match us, hl with | [_], _ => rfl
  have b_draw_ := F_draw.binds (ps := ["_law_pen_here", "_law_many"]) fun _ _ _ _ _ _ us hl => match us, hl with | [_, _], _ => rfl
  have b_pick_ := F_pick.binds (ps := ["_law_pen_here", "_law_some"]) fun _ _ _ _ _ _ us hl => match us, hl with | [_, _], _ => rfl
  have b_words_ := F_words.binds (ps := []) fun _ _ _ _ _ _ us hl => match us, hl with | [], _ => rfl
  have b_oddn_ := F_oddn.binds (ps := ["_law_pen_here"]) fun _ _ _ _ _ _ us hl => match us, hl with | [_], _ => rfl
  have b_tick_ := F_tick.binds (ps := ["_law_pen_here"]) fun _ _ _ _ _ _ us hl => match us, hl with | [_], _ => rfl
  have b_lkinds_ := F_lkinds.binds (ps := []) fun _ _ _ _ _ _ us hl => match us, hl with | [], _ => rfl
  have b_drawn_ := F_drawn.binds (ps := ["_law_pen_here", "_law_crew_here", "_law_kinds_here"]) fun _ _ _ _ _ _ us hl => match us, hl with | [_, _, _], _ => rfl
  have b_crew_ := F_crew.binds (ps := ["_law_pen_here"]) fun _ _ _ _ _ _ us hl => match us, hl with | [_], _ => rfl
  have b_named_ := F_named.binds (ps := ["_law_row"]) fun _ _ _ _ _ _ us hl => match us, hl with | [_], _ => rfl
  have b_ltext_ := F_ltext.binds (ps := ["_law_row"]) fun _ _ _ _ _ _ us hl => match us, hl with | [_], _ => rfl
  have b_lmade_ := F_lmade.binds (ps := ["_law_row"]) fun _ _ _ _ _ _ us hl => match us, hl with | [_], _ => rfl
  have b_heard_ := F_heard.binds (ps := ["_law_ask"]) fun _ _ _ _ _ _ us hl => match us, hl with | [_], _ => rfl
  have b_moved_ := F_moved.binds (ps := ["_law_row", "_law_much"]) fun _ _ _ _ _ _ us hl => match us, hl with | [_, _], _ => rfl
  have b_mvr_ := F_mvr.binds (ps := ["_law_pen_here", "_law_row"]) fun _ _ _ _ _ _ us hl => match us, hl with | [_, _], _ => rfl
  have b_lnames_ := F_lnames.binds (ps := ["_law_pen_here", "_law_row"]) fun _ _ _ _ _ _ us hl => match us, hl with | [_, _], _ => rfl
  have b_rnr_ := F_rnr.binds (ps := ["_law_pen_here", "_law_row"]) fun _ _ _ _ _ _ us hl => match us, hl with | [_, _], _ => rfl
  have b_lis_ := F_lis.binds (ps := ["_law_word"]) fun _ _ _ _ _ _ us hl => match us, hl with | [_], _ => rfl
  have b_law_ := F_law.binds (ps := ["_law_script"]) fun _ _ _ _ _ _ us hl => match us, hl with | [_], _ => rfl
  have b_whole_ := F_whole.binds (ps := ["value"]) fun _ _ _ _ _ _ us hl => match us, hl with | [_], _ => rfl
  have b_moment_ := F_moment.binds (ps := ["value"]) fun _ _ _ _ _ _ us hl => match us, hl with | [_], _ => rfl
  have b_isname_ := F_isname.binds (ps := ["value"]) fun _ _ _ _ _ _ us hl => match us, hl with | [_], _ => rfl
  have b_check_ := F_check.binds (ps := ["value", "form"]) fun _ _ _ _ _ _ us hl => match us, hl with | [_, _], _ => rfl
  have b_checked_ := F_checked.binds (ps := ["kind", "told"]) fun _ _ _ _ _ _ us hl => match us, hl with | [_, _], _ => rfl
  have b_wordof_ := F_wordof.binds (ps := ["value"]) fun _ _ _ _ _ _ us hl => match us, hl with | [_], _ => rfl
  have b_madeRow_ := F_madeRow.binds (ps := ["kind", "told"]) fun _ _ _ _ _ _ us hl => match us, hl with | [_, _], _ => rfl
  have b_begun_ := F_begun.binds (ps := ["self", "tool", "moment"]) fun _ _ _ _ _ _ us hl => match us, hl with | [_, _, _], _ => rfl
  have b_req_ := F_req.binds (ps := ["self", "other"]) fun _ _ _ _ _ _ us hl => match us, hl with | [_, _], _ => rfl
  have b_rstr_ := F_rstr.binds (ps := ["self"]) fun _ _ _ _ _ _ us hl => match us, hl with | [_], _ => rfl
  have b_rlsh_ := F_rlsh.binds (ps := ["self", "ticks"]) fun _ _ _ _ _ _ us hl => match us, hl with | [_, _], _ => rfl
  have b_rren_ := F_rren.binds (ps := ["self", "names"]) fun _ _ _ _ _ _ us hl => match us, hl with | [_, _], _ => rfl
  have b_setby_ := F_setby.binds (ps := ["self", "tool", "moment", "by"]) fun _ _ _ _ _ _ us hl => match us, hl with | [_, _, _, _], _ => rfl
  have b_found_ := F_found.binds (ps := ["self", "tool", "moment", "is_sound"]) fun _ _ _ _ _ _ us hl => match us, hl with | [_, _, _, _], _ => rfl
  have b_trusted_ := F_trusted.binds (ps := ["self", "tool"]) fun _ _ _ _ _ _ us hl => match us, hl with | [_, _], _ => rfl
  have b_passed_ := F_passed.binds (ps := ["self", "tool", "moment", "by"]) fun _ _ _ _ _ _ us hl => match us, hl with | [_, _, _, _], _ => rfl
  have b_failed_ := F_failed.binds (ps := ["self", "tool", "moment", "by"]) fun _ _ _ _ _ _ us hl => match us, hl with | [_, _, _, _], _ => rfl
  have b_meet_ := F_meet.binds (ps := ["self", "kind", "one", "moment", "other", "later"]) fun _ _ _ _ _ _ us hl => match us, hl with | [_, _, _, _, _, _], _ => rfl
  have b_eN_ := F_eN.binds (ps := ["self", "name"]) fun _ _ _ _ _ _ us hl => match us, hl with | [_, _], _ => rfl
  have b_eM_ := F_eM.binds (ps := ["self", "moment"]) fun _ _ _ _ _ _ us hl => match us, hl with | [_, _], _ => rfl
  have b_eS_ := F_eS.binds (ps := ["self", "value"]) fun _ _ _ _ _ _ us hl => match us, hl with | [_, _], _ => rfl
  have b_eO_ := F_eO.binds (ps := ["self", "tool"]) fun _ _ _ _ _ _ us hl => match us, hl with | [_, _], _ => rfl
  have L_C_begun : Cls K C_begun := ⟨pgC_begun, hdC_begun, poC_begun, saC_begun⟩
  have L_C_setby : Cls K C_setby := ⟨pgC_setby, hdC_setby, poC_setby, saC_setby⟩
  have L_C_found : Cls K C_found := ⟨pgC_found, hdC_found, poC_found, saC_found⟩
  have L_C_trusted : Cls K C_trusted := ⟨pgC_trusted, hdC_trusted, poC_trusted, saC_trusted⟩
  have L_C_passed : Cls K C_passed := ⟨pgC_passed, hdC_passed, poC_passed, saC_passed⟩
  have L_C_failed : Cls K C_failed := ⟨pgC_failed, hdC_failed, poC_failed, saC_failed⟩
  have L_C_agreed : Cls K C_agreed := ⟨pgC_agreed, hdC_agreed, poC_agreed, saC_agreed⟩
  have L_C_differed : Cls K C_differed := ⟨pgC_differed, hdC_differed, poC_differed, saC_differed⟩
  have L_C_served : Cls K C_served := ⟨pgC_served, hdC_served, poC_served, saC_served⟩
  have L_C_backed : Cls K C_backed := ⟨pgC_backed, hdC_backed, poC_backed, saC_backed⟩
  have RN : Err K CN := ⟨geN, heN, exeN, hdeN, caeN, thn, tht, cmeN⟩
  have ON : OneE K mg "BadName" "name" CN feN _ := ⟨⟨⟨_, _, _, _, _, _, _, _, _, _, _, _, _, _, _, xN, by rfl⟩, seN, exeN, tyeN, kkeN⟩, aeN, teN, g1 aN, neN, RN, b_eN_⟩
  have RM : Err K CM := ⟨geM, heM, exeM, hdeM, caeM, thn, tht, cmeM⟩
  have OM : OneE K mg "BadMoment" "moment" CM feM _ := ⟨⟨⟨_, _, _, _, _, _, _, _, _, _, _, _, _, _, _, xM, by rfl⟩, seM, exeM, tyeM, kkeM⟩, aeM, teM, g1 aM, neM, RM, b_eM_⟩
  have RS : Err K CS := ⟨geS, heS, exeS, hdeS, caeS, thn, tht, cmeS⟩
  have OS : OneE K mg "BadSaying" "value" CS feS _ := ⟨⟨⟨_, _, _, _, _, _, _, _, _, _, _, _, _, _, _, xS, by rfl⟩, seS, exeS, tyeS, kkeS⟩, aeS, teS, g1 aS, neS, RS, b_eS_⟩
  have RO : Err K CO := ⟨geO, heO, exeO, hdeO, caeO, thn, tht, cmeO⟩
  have OO : OneE K mg "NoTool" "tool" CO feO _ := ⟨⟨⟨_, _, _, _, _, _, _, _, _, _, _, _, _, _, _, xO, by rfl⟩, seO, exeO, tyeO, kkeO⟩, aeO, teO, g1 aO, neO, RO, b_eO_⟩
  have W : Words K mg := ⟨⟨_, g1 gG⟩, ⟨_, g1 gL⟩, ⟨_, g1 gA⟩, ⟨_, g1 gD⟩, ⟨aNo, g1 gN, fun H => tab_seq lN vN (by decide) H⟩, g0 b_isinstance, g0 b_int, g0 b_bool, g0 b_str, g0 b_len, g0 b_all⟩
  have TF : Forms K w mg aF := ⟨g1 gF, fun kind hk => by
    unfold kinds at hk
    simp only [List.mem_cons, List.not_mem_nil, or_false] at hk
    rcases hk with h | h | h | h | h | h | h | h | h | h <;> subst h
    · exact ⟨t_begun, ⟨esF, nF, _, lF, klF, gtbegun, rfl⟩, fun H => tab_seq ltbegun vtbegun (by decide +kernel) H⟩
    · exact ⟨t_setby, ⟨esF, nF, _, lF, klF, gtsetby, rfl⟩, fun H => tab_seq ltsetby vtsetby (by decide +kernel) H⟩
    · exact ⟨t_found, ⟨esF, nF, _, lF, klF, gtfound, rfl⟩, fun H => tab_seq ltfound vtfound (by decide +kernel) H⟩
    · exact ⟨t_trusted, ⟨esF, nF, _, lF, klF, gttrusted, rfl⟩, fun H => tab_seq lttrusted vttrusted (by decide +kernel) H⟩
    · exact ⟨t_passed, ⟨esF, nF, _, lF, klF, gtpassed, rfl⟩, fun H => tab_seq ltpassed vtpassed (by decide +kernel) H⟩
    · exact ⟨t_failed, ⟨esF, nF, _, lF, klF, gtfailed, rfl⟩, fun H => tab_seq ltfailed vtfailed (by decide +kernel) H⟩
    · exact ⟨t_agreed, ⟨esF, nF, _, lF, klF, gtagreed, rfl⟩, fun H => tab_seq ltagreed vtagreed (by decide +kernel) H⟩
    · exact ⟨t_differed, ⟨esF, nF, _, lF, klF, gtdiffered, rfl⟩, fun H => tab_seq ltdiffered vtdiffered (by decide +kernel) H⟩
    · exact ⟨t_served, ⟨esF, nF, _, lF, klF, gtserved, rfl⟩, fun H => tab_seq ltserved vtserved (by decide +kernel) H⟩
    · exact ⟨t_backed, ⟨esF, nF, _, lF, klF, gtbacked, rfl⟩, fun H => tab_seq ltbacked vtbacked (by decide +kernel) H⟩, g0 b_zip⟩
  have RR : Errs K mg CN CM CS := ⟨⟨_, _, ON, F_eN⟩, ⟨_, _, OM, F_eM⟩, ⟨_, _, OS, F_eS⟩⟩
  have HR : HrL K mg CT CN CM CO := {
    gT := g1 aT, gN := g1 aN, gM := g1 aM, gS := g1 aO, gV := g0 b_ValueError, isi := g0 b_isinstance, len := g0 b_len
    te := fun C hC => by
      simp only [List.mem_cons, List.not_mem_nil, or_false] at hC
      rcases hC with rfl | rfl | rfl
      · exact ⟨exm_own iT tT eT uteN sT, kit_VE veeN, RN⟩
      · exact ⟨exm_own iT tT eT uteM sT, kit_VE veeM, RM⟩
      · exact ⟨exm_own iT tT eT uteO sT, kit_VE veeO, RO⟩
    no := fun C hC => by
      simp only [List.mem_cons, List.not_mem_nil, or_false] at hC
      rcases hC with rfl | rfl | rfl
      · exact kit_no iceN tyeN (by decide +kernel)
      · exact kit_no iceM tyeM (by decide +kernel)
      · exact kit_no iceO tyeO (by decide +kernel)
    nn := kit_self
    nm := kit_own iceM tyeM uNM uMM
    ns := kit_own iceO tyeO uNO uOO
    mn := kit_own iceN tyeN uMN uNN
    mm := kit_self
    ms := kit_own iceO tyeO uMO uOO
    sn := kit_own iceN tyeN uON uNN
    sm := kit_own iceM tyeM uOM uMM
    ss := kit_self
    fN := neN, fM := neM, fS := neO }
  obtain ⟨e_begun, e_setby, e_found, e_trusted, e_passed, e_failed, e_agreed, e_differed, e_served, e_backed⟩ := cf_all C_begun C_setby C_found C_trusted C_passed C_failed C_agreed C_differed C_served C_backed
  generalize cfOf C_begun C_setby C_found C_trusted C_passed C_failed C_agreed C_differed C_served C_backed = Cf at e_begun e_setby e_found e_trusted e_passed e_failed e_agreed e_differed e_served e_backed
  have TR : RowsC K mg Cf CR := ⟨g1 gR, all10 (by rw [e_begun, attrs_begun]; exact ⟨L_C_begun, by simp only [List.forall_mem_cons]; exact ⟨nC_begun__told, nC_begun_kind, nC_begun_tool, nC_begun_moment, fun _ h => nomatch h⟩⟩) (by rw [e_setby, attrs_setby]; exact ⟨L_C_setby, by simp only [List.forall_mem_cons]; exact ⟨nC_setby__told, nC_setby_kind, nC_setby_tool, nC_setby_moment, nC_setby_by, fun _ h => nomatch h⟩⟩) (by rw [e_found, attrs_found]; exact ⟨L_C_found, by simp only [List.forall_mem_cons]; exact ⟨nC_found__told, nC_found_kind, nC_found_tool, nC_found_moment, nC_found_is_sound, fun _ h => nomatch h⟩⟩) (by rw [e_trusted, attrs_trusted]; exact ⟨L_C_trusted, by simp only [List.forall_mem_cons]; exact ⟨nC_trusted__told, nC_trusted_kind, nC_trusted_tool, fun _ h => nomatch h⟩⟩) (by rw [e_passed, attrs_passed]; exact ⟨L_C_passed, by simp only [List.forall_mem_cons]; exact ⟨nC_passed__told, nC_passed_kind, nC_passed_tool, nC_passed_moment, nC_passed_by, fun _ h => nomatch h⟩⟩) (by rw [e_failed, attrs_failed]; exact ⟨L_C_failed, by simp only [List.forall_mem_cons]; exact ⟨nC_failed__told, nC_failed_kind, nC_failed_tool, nC_failed_moment, nC_failed_by, fun _ h => nomatch h⟩⟩) (by rw [e_agreed, attrs_meet "agreed" (by decide +kernel)]; exact ⟨L_C_agreed, by simp only [List.forall_mem_cons]; exact ⟨nC_agreed__told, nC_agreed_kind, nC_agreed_one, nC_agreed_moment, nC_agreed_other, nC_agreed_later, fun _ h => nomatch h⟩⟩) (by rw [e_differed, attrs_meet "differed" (by decide +kernel)]; exact ⟨L_C_differed, by simp only [List.forall_mem_cons]; exact ⟨nC_differed__told, nC_differed_kind, nC_differed_one, nC_differed_moment, nC_differed_other, nC_differed_later, fun _ h => nomatch h⟩⟩) (by rw [e_served, attrs_meet "served" (by decide +kernel)]; exact ⟨L_C_served, by simp only [List.forall_mem_cons]; exact ⟨nC_served__told, nC_served_kind, nC_served_one, nC_served_moment, nC_served_other, nC_served_later, fun _ h => nomatch h⟩⟩) (by rw [e_backed, attrs_meet "backed" (by decide +kernel)]; exact ⟨L_C_backed, by simp only [List.forall_mem_cons]; exact ⟨nC_backed__told, nC_backed_kind, nC_backed_one, nC_backed_moment, nC_backed_other, nC_backed_later, fun _ h => nomatch h⟩⟩),
    all10 (by rw [e_begun]; exact kit_own icR tyR sRC_begun sbR) (by rw [e_setby]; exact kit_own icR tyR sRC_setby sbR) (by rw [e_found]; exact kit_own icR tyR sRC_found sbR) (by rw [e_trusted]; exact kit_own icR tyR sRC_trusted sbR) (by rw [e_passed]; exact kit_own icR tyR sRC_passed sbR) (by rw [e_failed]; exact kit_own icR tyR sRC_failed sbR) (by rw [e_agreed]; exact kit_own icR tyR sRC_agreed sbR) (by rw [e_differed]; exact kit_own icR tyR sRC_differed sbR) (by rw [e_served]; exact kit_own icR tyR sRC_served sbR) (by rw [e_backed]; exact kit_own icR tyR sRC_backed sbR),
    all10 (by rw [e_begun]; exact thaC_begun) (by rw [e_setby]; exact thaC_setby) (by rw [e_found]; exact thaC_found) (by rw [e_trusted]; exact thaC_trusted) (by rw [e_passed]; exact thaC_passed) (by rw [e_failed]; exact thaC_failed) (by rw [e_agreed]; exact thaC_agreed) (by rw [e_differed]; exact thaC_differed) (by rw [e_served]; exact thaC_served) (by rw [e_backed]; exact thaC_backed), thn, tht, all10 (by rw [e_begun]; exact thmC_begun) (by rw [e_setby]; exact thmC_setby) (by rw [e_found]; exact thmC_found) (by rw [e_trusted]; exact thmC_trusted) (by rw [e_passed]; exact thmC_passed) (by rw [e_failed]; exact thmC_failed) (by rw [e_agreed]; exact thmC_agreed) (by rw [e_differed]; exact thmC_differed) (by rw [e_served]; exact thmC_served) (by rw [e_backed]; exact thmC_backed)⟩
  refine ⟨PySem.W.fnOf "law" "law" (defArgs sLaw) (defBody sLaw) (defScope sLaw) .none kVlaw dclaw pmlaw anlaw cdlaw ctlaw, c_mvr, P_mvr, c_rnr, P_rnr, tab_by amvr lmvr rfl lcmvr vcmvr, nTmvr, tab_by arnr lrnr rfl lcrnr vcrnr, nTrnr, fun s v => .of_eq rfl, fun base _ _ TB => ?_⟩
  have GD := ok_draw (P := l.prog) (w := w) (base := base) F_draw (g0 b_len) (g0 b_int) (g0 b_abs)
  have GPk := ok_pick (P := l.prog) (w := w) (base := base) F_pick (g0 b_len) F_draw b_draw_ (g1 adraw) GD
  have GPen := ok_pen (P := l.prog) (w := w) (base := base) F_pen (g0 b_list)
  have GW := ok_words (P := l.prog) (w := w) (mg := mg) (base := base) F_words
  have GON := ok_oddN (P := l.prog) (w := w) (base := base) F_oddn F_pick b_pick_ (g1 apick) GPk F_words b_words_ (g1 awords) GW
  have GTi := ok_tick (P := l.prog) (w := w) (base := base) F_tick F_pick b_pick_ (g1 apick) GPk F_draw b_draw_ (g1 adraw) GD
  have GKi := ok_kinds (P := l.prog) (w := w) (mg := mg) (base := base) F_lkinds
  have GDr := ok_drawn (P := l.prog) (w := w) (base := base) F_drawn (g0 b_int) F_pick b_pick_ (g1 apick) GPk F_draw b_draw_ (g1 adraw) GD F_tick b_tick_ (g1 atick) GTi
  have GCr := ok_crew (P := l.prog) (w := w) (base := base) F_crew F_pick b_pick_ (g1 apick) GPk F_draw b_draw_ (g1 adraw) GD
  have GNd := ok_named (P := l.prog) (w := w) (base := base) F_named (g0 b_isinstance) (g0 b_str)
  have GTx := ok_text (P := l.prog) (w := w) (base := base) F_ltext (g0 b_str)
  have GMo := ok_moved (P := l.prog) (w := w) (base := base) F_moved (g0 b_int) (g0 b_bool) (g0 b_isinstance) (g0 b_tuple)
  have GLi := ok_lis (P := l.prog) (w := w) (base := base) F_lis (g0 b_len) F_words b_words_ (g1 awords) GW
  have GNs := ok_names (P := l.prog) (w := w) (base := base) F_lnames F_pick b_pick_ (g1 apick) GPk F_draw b_draw_ (g1 adraw) GD F_oddn b_oddn_ (g1 aoddn) GON F_named b_named_ (g1 anamed) GNd
  have GM := ok_moment (P := l.prog) (w := w) (base := base) F_moment W F_whole b_whole_ (g1 awhole)
  have GNa := ok_name (P := l.prog) (w := w) (base := base) F_isname W
  have GC := ok_check (P := l.prog) (w := w) (base := base) F_check W RR F_moment b_moment_ (g1 amoment) GM F_isname b_isname_ (g1 aisname) GNa
  have GCk := ok_checked (P := l.prog) (w := w) (base := base) F_checked TF F_check b_check_ (g1 acheck) GC
  have G_begun := ok_Begun (P := l.prog) (w := w) (base := base) (C := C_begun) F_begun ⟨L_C_begun, by simp only [List.forall_mem_cons]; exact ⟨nC_begun__told, nC_begun_kind, nC_begun_tool, nC_begun_moment, fun _ h => nomatch h⟩⟩ F_checked b_checked_ (g1 achecked) GCk
  have G_setby := ok_SetBy (P := l.prog) (w := w) (base := base) (C := C_setby) F_setby ⟨L_C_setby, by simp only [List.forall_mem_cons]; exact ⟨nC_setby__told, nC_setby_kind, nC_setby_tool, nC_setby_moment, nC_setby_by, fun _ h => nomatch h⟩⟩ F_checked b_checked_ (g1 achecked) GCk
  have G_found := ok_Found (P := l.prog) (w := w) (base := base) (C := C_found) F_found ⟨L_C_found, by simp only [List.forall_mem_cons]; exact ⟨nC_found__told, nC_found_kind, nC_found_tool, nC_found_moment, nC_found_is_sound, fun _ h => nomatch h⟩⟩ F_checked b_checked_ (g1 achecked) GCk
  have G_trusted := ok_Trusted (P := l.prog) (w := w) (base := base) (C := C_trusted) F_trusted ⟨L_C_trusted, by simp only [List.forall_mem_cons]; exact ⟨nC_trusted__told, nC_trusted_kind, nC_trusted_tool, fun _ h => nomatch h⟩⟩ F_checked b_checked_ (g1 achecked) GCk
  have G_passed := ok_Passed (P := l.prog) (w := w) (base := base) (C := C_passed) F_passed ⟨L_C_passed, by simp only [List.forall_mem_cons]; exact ⟨nC_passed__told, nC_passed_kind, nC_passed_tool, nC_passed_moment, nC_passed_by, fun _ h => nomatch h⟩⟩ F_checked b_checked_ (g1 achecked) GCk
  have G_failed := ok_Failed (P := l.prog) (w := w) (base := base) (C := C_failed) F_failed ⟨L_C_failed, by simp only [List.forall_mem_cons]; exact ⟨nC_failed__told, nC_failed_kind, nC_failed_tool, nC_failed_moment, nC_failed_by, fun _ h => nomatch h⟩⟩ F_checked b_checked_ (g1 achecked) GCk
  have GMe_agreed := ok_Meeting (P := l.prog) (w := w) (base := base) (C := C_agreed) F_meet ⟨L_C_agreed, by simp only [List.forall_mem_cons]; exact ⟨nC_agreed__told, nC_agreed_kind, nC_agreed_one, nC_agreed_moment, nC_agreed_other, nC_agreed_later, fun _ h => nomatch h⟩⟩ F_checked b_checked_ (g1 achecked) GCk
  have SF_agreed : SupFn K l.prog "__init__" "Agreed.__init__" (defArgs sAgreed) (defBody sAgreed) (defScope sAgreed) C_agreed ccagreed fagreed (.ref cdaagreed) _ := ⟨⟨_, _, _, _, _, _, _, _, rfl, lagreed, cagreed⟩, kagreed, ⟨_, _, _, eagreed⟩, ⟨_, _, _, _, _, _, _, rfl, dagreed, vagreed, wagreed⟩, tops, opq, ⟨_, zagreed⟩⟩
  have G_agreed := ok_Agreed (P := l.prog) (w := w) (base := base) (C := C_agreed) SF_agreed (g0 b_super) yagreed ⟨_, zagreed⟩ xagreed tmeet fnmeet b_meet_ GMe_agreed
  have GMe_differed := ok_Meeting (P := l.prog) (w := w) (base := base) (C := C_differed) F_meet ⟨L_C_differed, by simp only [List.forall_mem_cons]; exact ⟨nC_differed__told, nC_differed_kind, nC_differed_one, nC_differed_moment, nC_differed_other, nC_differed_later, fun _ h => nomatch h⟩⟩ F_checked b_checked_ (g1 achecked) GCk
  have SF_differed : SupFn K l.prog "__init__" "Differed.__init__" (defArgs sDiffered) (defBody sDiffered) (defScope sDiffered) C_differed ccdiffered fdiffered (.ref cdadiffered) _ := ⟨⟨_, _, _, _, _, _, _, _, rfl, ldiffered, cdiffered⟩, kdiffered, ⟨_, _, _, ediffered⟩, ⟨_, _, _, _, _, _, _, rfl, ddiffered, vdiffered, wdiffered⟩, tops, opq, ⟨_, zdiffered⟩⟩
  have G_differed := ok_Differed (P := l.prog) (w := w) (base := base) (C := C_differed) SF_differed (g0 b_super) ydiffered ⟨_, zdiffered⟩ xdiffered tmeet fnmeet b_meet_ GMe_differed
  have GMe_served := ok_Meeting (P := l.prog) (w := w) (base := base) (C := C_served) F_meet ⟨L_C_served, by simp only [List.forall_mem_cons]; exact ⟨nC_served__told, nC_served_kind, nC_served_one, nC_served_moment, nC_served_other, nC_served_later, fun _ h => nomatch h⟩⟩ F_checked b_checked_ (g1 achecked) GCk
  have SF_served : SupFn K l.prog "__init__" "Served.__init__" (defArgs sServed) (defBody sServed) (defScope sServed) C_served ccserved fserved (.ref cdaserved) _ := ⟨⟨_, _, _, _, _, _, _, _, rfl, lserved, cserved⟩, kserved, ⟨_, _, _, eserved⟩, ⟨_, _, _, _, _, _, _, rfl, dserved, vserved, wserved⟩, tops, opq, ⟨_, zserved⟩⟩
  have G_served := ok_Served (P := l.prog) (w := w) (base := base) (C := C_served) SF_served (g0 b_super) yserved ⟨_, zserved⟩ xserved tmeet fnmeet b_meet_ GMe_served
  have GMe_backed := ok_Meeting (P := l.prog) (w := w) (base := base) (C := C_backed) F_meet ⟨L_C_backed, by simp only [List.forall_mem_cons]; exact ⟨nC_backed__told, nC_backed_kind, nC_backed_one, nC_backed_moment, nC_backed_other, nC_backed_later, fun _ h => nomatch h⟩⟩ F_checked b_checked_ (g1 achecked) GCk
  have SF_backed : SupFn K l.prog "__init__" "Backed.__init__" (defArgs sBacked) (defBody sBacked) (defScope sBacked) C_backed ccbacked fbacked (.ref cdabacked) _ := ⟨⟨_, _, _, _, _, _, _, _, rfl, lbacked, cbacked⟩, kbacked, ⟨_, _, _, ebacked⟩, ⟨_, _, _, _, _, _, _, rfl, dbacked, vbacked, wbacked⟩, tops, opq, ⟨_, zbacked⟩⟩
  have G_backed := ok_Backed (P := l.prog) (w := w) (base := base) (C := C_backed) SF_backed (g0 b_super) ybacked ⟨_, zbacked⟩ xbacked tmeet fnmeet b_meet_ GMe_backed
  have RW : Rows K l.prog w mg base CN CM CS Cf := {
    begun := ⟨fbegun, _, by rw [e_begun]; exact g1 aC_begun, by rw [e_begun]; exact ⟨mkC_begun, abegun, ibegun, kcC_begun⟩, b_begun_, by rw [e_begun]; exact G_begun.mono (by decide)⟩
    setby := ⟨fsetby, _, by rw [e_setby]; exact g1 aC_setby, by rw [e_setby]; exact ⟨mkC_setby, asetby, isetby, kcC_setby⟩, b_setby_, by rw [e_setby]; exact G_setby.mono (by decide)⟩
    found := ⟨ffound, _, by rw [e_found]; exact g1 aC_found, by rw [e_found]; exact ⟨mkC_found, afound, ifound, kcC_found⟩, b_found_, by rw [e_found]; exact G_found.mono (by decide)⟩
    trusted := ⟨ftrusted, _, by rw [e_trusted]; exact g1 aC_trusted, by rw [e_trusted]; exact ⟨mkC_trusted, atrusted, itrusted, kcC_trusted⟩, b_trusted_, by rw [e_trusted]; exact G_trusted.mono (by decide)⟩
    passed := ⟨fpassed, _, by rw [e_passed]; exact g1 aC_passed, by rw [e_passed]; exact ⟨mkC_passed, apassed, ipassed, kcC_passed⟩, b_passed_, by rw [e_passed]; exact G_passed.mono (by decide)⟩
    failed := ⟨ffailed, _, by rw [e_failed]; exact g1 aC_failed, by rw [e_failed]; exact ⟨mkC_failed, afailed, ifailed, kcC_failed⟩, b_failed_, by rw [e_failed]; exact G_failed.mono (by decide)⟩
    agreed := ⟨fagreed, _, by rw [e_agreed]; exact g1 aC_agreed, by rw [e_agreed]; exact ⟨mkC_agreed, aagreed, iagreed, kcC_agreed⟩, .all (fun us hl => match us, hl with | [_, _, _, _, _], _ => rfl), by rw [e_agreed]; exact G_agreed⟩
    differed := ⟨fdiffered, _, by rw [e_differed]; exact g1 aC_differed, by rw [e_differed]; exact ⟨mkC_differed, adiffered, idiffered, kcC_differed⟩, .all (fun us hl => match us, hl with | [_, _, _, _, _], _ => rfl), by rw [e_differed]; exact G_differed⟩
    served := ⟨fserved, _, by rw [e_served]; exact g1 aC_served, by rw [e_served]; exact ⟨mkC_served, aserved, iserved, kcC_served⟩, .all (fun us hl => match us, hl with | [_, _, _, _, _], _ => rfl), by rw [e_served]; exact G_served⟩
    backed := ⟨fbacked, _, by rw [e_backed]; exact g1 aC_backed, by rw [e_backed]; exact ⟨mkC_backed, abacked, ibacked, kcC_backed⟩, .all (fun us hl => match us, hl with | [_, _, _, _, _], _ => rfl), by rw [e_backed]; exact G_backed⟩ }
  have GMa := ok_made (P := l.prog) (w := w) (base := base) F_lmade RW
  have GMr := ok_madeRow (P := l.prog) (w := w) (base := base) F_madeRow RW
  have GWo := ok_wordOf (P := l.prog) (w := w) (base := base) F_wordof W
  have GStr := ok_strR (P := l.prog) (w := w) (base := base) F_rstr TR F_wordof b_wordof_ (g1 awordof) GWo
  have GEq := ok_eqR (P := l.prog) (w := w) (base := base) F_req W TR
  have GLs := ok_lsh (P := l.prog) (w := w) (base := base) F_rlsh TR TF F_madeRow b_madeRow_ (g1 amadeRow) GMr
  have GRe := ok_ren (P := l.prog) (w := w) (base := base) F_rren TR TF F_madeRow b_madeRow_ (g1 amadeRow) GMr
  have MM : Mths K l.prog w mg base Cf CR CN CM CS := ⟨W, TR, ⟨_, _, all10 (by rw [e_begun]; exact areqC_begun) (by rw [e_setby]; exact areqC_setby) (by rw [e_found]; exact areqC_found) (by rw [e_trusted]; exact areqC_trusted) (by rw [e_passed]; exact areqC_passed) (by rw [e_failed]; exact areqC_failed) (by rw [e_agreed]; exact areqC_agreed) (by rw [e_differed]; exact areqC_differed) (by rw [e_served]; exact areqC_served) (by rw [e_backed]; exact areqC_backed), ireq, b_req_, GEq⟩,
    ⟨_, _, all10 (by rw [e_begun]; exact arstrC_begun) (by rw [e_setby]; exact arstrC_setby) (by rw [e_found]; exact arstrC_found) (by rw [e_trusted]; exact arstrC_trusted) (by rw [e_passed]; exact arstrC_passed) (by rw [e_failed]; exact arstrC_failed) (by rw [e_agreed]; exact arstrC_agreed) (by rw [e_differed]; exact arstrC_differed) (by rw [e_served]; exact arstrC_served) (by rw [e_backed]; exact arstrC_backed), irstr, b_rstr_, GStr⟩,
    ⟨_, _, fo, ro, all10 (by rw [e_begun]; exact ⟨arlshC_begun, sfC_begun, rlC_begun⟩) (by rw [e_setby]; exact ⟨arlshC_setby, sfC_setby, rlC_setby⟩) (by rw [e_found]; exact ⟨arlshC_found, sfC_found, rlC_found⟩) (by rw [e_trusted]; exact ⟨arlshC_trusted, sfC_trusted, rlC_trusted⟩) (by rw [e_passed]; exact ⟨arlshC_passed, sfC_passed, rlC_passed⟩) (by rw [e_failed]; exact ⟨arlshC_failed, sfC_failed, rlC_failed⟩) (by rw [e_agreed]; exact ⟨arlshC_agreed, sfC_agreed, rlC_agreed⟩) (by rw [e_differed]; exact ⟨arlshC_differed, sfC_differed, rlC_differed⟩) (by rw [e_served]; exact ⟨arlshC_served, sfC_served, rlC_served⟩) (by rw [e_backed]; exact ⟨arlshC_backed, sfC_backed, rlC_backed⟩), irlsh, b_rlsh_, hi1, hi2, GLs⟩,
    ⟨_, _, all10 (by rw [e_begun]; exact ⟨arrenC_begun, irren, krren⟩) (by rw [e_setby]; exact ⟨arrenC_setby, irren, krren⟩) (by rw [e_found]; exact ⟨arrenC_found, irren, krren⟩) (by rw [e_trusted]; exact ⟨arrenC_trusted, irren, krren⟩) (by rw [e_passed]; exact ⟨arrenC_passed, irren, krren⟩) (by rw [e_failed]; exact ⟨arrenC_failed, irren, krren⟩) (by rw [e_agreed]; exact ⟨arrenC_agreed, irren, krren⟩) (by rw [e_differed]; exact ⟨arrenC_differed, irren, krren⟩) (by rw [e_served]; exact ⟨arrenC_served, irren, krren⟩) (by rw [e_backed]; exact ⟨arrenC_backed, irren, krren⟩), b_rren_, kb_names fun s u w => .of_eq rfl, GRe⟩⟩
  have GMv := ok_moveR (P := l.prog) (w := w) (base := base) (T := T2 P_mvr P_rnr) F_mvr rfl (TB _ List.mem_cons_self) (fun _ _ _ => List.mem_cons_self) (t2_mvr nePP) MM HR (g0 b_repr) F_pick b_pick_ (g1 apick) GPk F_draw b_draw_ (g1 adraw) GD F_lmade b_lmade_ (g1 almade) GMa F_moved b_moved_ (g1 amoved) GMo F_ltext b_ltext_ (g1 altext) GTx F_heard b_heard_ (g1 aheard)
  have GRn := ok_renR (P := l.prog) (w := w) (base := base) (T := T2 P_mvr P_rnr) F_rnr rfl (TB _ (List.mem_cons_of_mem _ List.mem_cons_self)) (fun _ _ _ => List.mem_cons_of_mem _ List.mem_cons_self) (t2_rnr nePP) MM HR (g0 b_repr) (g0 b_tuple) F_lnames b_lnames_ (g1 alnames) GNs F_named b_named_ (g1 anamed) GNd F_lis b_lis_ (g1 alis) GLi F_lmade b_lmade_ (g1 almade) GMa F_ltext b_ltext_ (g1 altext) GTx F_heard b_heard_ (g1 aheard)
  exact ok_law F_law F_pen b_pen_ (g1 apen) GPen F_lkinds b_lkinds_ (g1 alkinds) GKi F_drawn b_drawn_ (g1 adrawn) GDr F_crew b_crew_ (g1 acrew) GCr F_mvr b_mvr_ (g1 amvr) GMv F_rnr b_rnr_ (g1 arnr) GRn
theorem walk {l : PySem.W.OpenLaw} {q : Program} {loose : List Str} {XP : (Str → Option Value) → Heap → Prop} {YP : World → Heap → Prop} {d : DefRec} {K : Params → PySem.W.Frag} (hn : l.most = some 63) (hdf : d.params.defaults = []) (hnm : d.name = "law")
    (hrec1 : ((recsOf q).find? (fun e => e.name == ("_law_move_right" : Str))).isSome = true) (hrec2 : ((recsOf q).find? (fun e => e.name == ("_law_rename_right" : Str))).isSome = true) (hY : ∀ (w : World) (h : Heap), YP w h → (K w.params).In h)
    (F : ∀ (w : World) (mg : Str → Option Value) (fa : Addr) (h : Heap), (K w.params).In h → h.Ns mainGlobals mg → mg "law" = some (.ref fa) →
      ∃ (fd : FuncData) (c1 P1 c2 P2 : Addr), PySem.W.tabIn (K w.params) "_law_move_right" = some (c1, P1) ∧ (K w.params).lookup P1 = none ∧ PySem.W.tabIn (K w.params) "_law_rename_right" = some (c2, P2) ∧ (K w.params).lookup P2 = none ∧ (∀ (s : Shared) (u : Value), BindsTo s fd ⟨[u], []⟩ [("_law_script", u)]) ∧
        ∀ base : Heap, (K w.params).In base → base.Ns mainGlobals mg → (∀ q ∈ [(c1, P1), (c2, P2)], TabB base mg q.1 q.2) → FnG l.prog w (K w.params) mg base CX0 14 fa fd ["_law_script"] (spLaw (K w.params) (T2 P1 P2))) :
    PySem.W.WalkO q loose XP YP l.row.toRowW d [] (fun f vs => PySem.call f vs) := by
  apply Att.attach_callB hn hdf
  intro w s₀ s₁ mg mb fa o pm cd doc a vs ns G Y _ _ _ hmg hobj hints hlen hbits hg
  have KX := hY w _ Y
  rw [hnm] at hmg
  obtain ⟨fd, c1, P1, c2, P2, ht1, nT1, ht2, nT2, hb, hF⟩ := F w mg fa _ KX G.T.g hmg
  obtain ⟨d1, hd1⟩ := Option.isSome_iff_exists.mp hrec1
  obtain ⟨C1, tb1⟩ := PySem.W.tab_of G.T KX hd1 ht1
  obtain ⟨d2, hd2⟩ := Option.isSome_iff_exists.mp hrec2
  obtain ⟨C2, tb2⟩ := PySem.W.tab_of G.T KX hd2 ht2
  refine law_callTGs (cs := [(c1, P1), (c2, P2)]) KX G.T.g G.T.b G.T.builtins G.T.nolimit hg (fun q hq => ?_) G.T.bmain hobj hints (Nat.le_trans hlen (by decide)) ⟨rfl, by decide, by decide⟩ hF hb (fun H hT hS => ⟨a, ns, rfl, hS, fun q hq => ?_, fun _ => rfl⟩) fun _ _ _ z => z
  · simp only [List.mem_cons, List.not_mem_nil, or_false] at hq
    rcases hq with e | e <;> subst e
    · exact ⟨tb1, nT1, C1⟩
    · exact ⟨tb2, nT2, C2⟩
  · unfold T2 at hq
    simp only [List.mem_cons, List.not_mem_nil, or_false] at hq
    rcases hq with e | e <;> subst e
    · exact TabS.nil (hT (c1, P1) (by simp))
    · exact TabS.nil (hT (c2, P2) (by simp))
end K14

open PySem PySem.W PySem.Calls PyProof.Rows
noncomputable def K14.Hk : Hook := kHook K14.dummy.heap_1 K14.as K14.as_eq
theorem K14.left : LeftO K14.R.prog K14.q K14.loose (fun s => xlAt K14.q [] s && recOk (RowW.records K14.R.toRowW) s) (Hook.obs K14.Hk) (Hook.val K14.Hk) 16000 true :=
  HeadRun.left_oneK (M := 15300) (by kernel_rfl) (by rfl) (fun s => by kernel_rfl) (by rfl) (K14.byRowAll "special-get-raises" K14.runF K14.runT)

set_option maxRecDepth 100000 in
set_option maxHeartbeats 0 in
theorem PySem.Challenge.cw_soundtill_k14_rows_moved_and_renamed_holds : PySem.Challenge.rw_soundtill_k14_rows_moved_and_renamed.Holds := by
  w_on; o_law
  refine PySem.W.holds_open (r := K14.R) (q := K14.q) (loose := K14.loose) (Xt := fun s => xlAt K14.q [] s && recOk (RowW.records K14.R.toRowW) s) (XP := XL K14.q []) (Yf := Hook.obs (kHook K14.dummy.heap_1 K14.as K14.as_eq)) (Ya := Hook.val (kHook K14.dummy.heap_1 K14.as K14.as_eq)) (YP := Hook.says (kHook K14.dummy.heap_1 K14.as K14.as_eq)) (N := 16000) K14.left (Hook.of (kHook K14.dummy.heap_1 K14.as K14.as_eq)) (Hook.keeps (kHook K14.dummy.heap_1 K14.as K14.as_eq)) (fun s e => xl_of s (Bool.and_eq_true_iff.mp e).1) XL.keeps (by rfl) (by rfl) (by rfl) (fun s e => recFacts_of (Bool.and_eq_true_iff.mp e).2) (by rfl) (by first | assumption | decide +kernel) (by decide +kernel) ⟨rfl, rfl, rfl, rfl, rfl, by decide +kernel⟩ ?hw ?hc
  (case hw => w_witness2)
  k_fill
  refine K14.walk (l := PySem.Challenge.rw_soundtill_k14_rows_moved_and_renamed) rfl rfl rfl (by decide +kernel) (by decide +kernel) (fun w h Y => PySem.W.kIn_of Y) ?F
  case F =>
    intro w mg fa h KX G hmg
    refine' K14.all_mk KX G hmg ?apen ?lpen ?cpen ?kpen ?adraw ?ldraw ?cdraw ?kdraw ?apick ?lpick ?cpick ?kpick ?awords ?lwords ?cwords ?kwords ?aoddn ?loddn ?coddn ?koddn ?atick ?ltick ?ctick ?ktick ?alkinds ?llkinds ?clkinds ?klkinds ?adrawn ?ldrawn ?cdrawn ?kdrawn ?acrew ?lcrew ?ccrew ?kcrew ?anamed ?lnamed ?cnamed ?knamed ?altext ?lltext ?cltext ?kltext ?almade ?llmade ?clmade ?klmade ?aheard ?lheard ?cheard ?kheard ?amoved ?lmoved ?cmoved ?kmoved ?amvr ?lmvr ?cmvr ?kmvr ?alnames ?llnames ?clnames ?klnames ?arnr ?lrnr ?crnr ?krnr ?alis ?llis ?clis ?klis ?alaw ?llaw ?claw ?klaw ?awhole ?lwhole ?cwhole ?kwhole ?amoment ?lmoment ?cmoment ?kmoment ?aisname ?lisname ?cisname ?kisname ?acheck ?lcheck ?ccheck ?kcheck ?achecked ?lchecked ?cchecked ?kchecked ?awordof ?lwordof ?cwordof ?kwordof ?amadeRow ?lmadeRow ?cmadeRow ?kmadeRow ?thn ?tht ?gR ?icR ?tyR ?sbR ?aC_begun ?pgC_begun ?hdC_begun ?poC_begun ?saC_begun ?mkC_begun ?kcC_begun ?nC_begun__told ?nC_begun_kind ?nC_begun_tool ?nC_begun_moment ?abegun ?ibegun ?lbegun ?cbegun ?kbegun ?thaC_begun ?thmC_begun ?areqC_begun ?ireq ?lreq ?creq ?kreq ?arstrC_begun ?irstr ?lrstr ?crstr ?krstr ?arlshC_begun ?irlsh ?lrlsh ?crlsh ?krlsh ?arrenC_begun ?irren ?lrren ?crren ?krren ?sRC_begun ?sfC_begun ?rlC_begun ?aC_setby ?pgC_setby ?hdC_setby ?poC_setby ?saC_setby ?mkC_setby ?kcC_setby ?nC_setby__told ?nC_setby_kind ?nC_setby_tool ?nC_setby_moment ?nC_setby_by ?asetby ?isetby ?lsetby ?csetby ?ksetby ?thaC_setby ?thmC_setby ?areqC_setby ?arstrC_setby ?arlshC_setby ?arrenC_setby ?sRC_setby ?sfC_setby ?rlC_setby ?aC_found ?pgC_found ?hdC_found ?poC_found ?saC_found ?mkC_found ?kcC_found ?nC_found__told ?nC_found_kind ?nC_found_tool ?nC_found_moment ?nC_found_is_sound ?afound ?ifound ?lfound ?cfound ?kfound ?thaC_found ?thmC_found ?areqC_found ?arstrC_found ?arlshC_found ?arrenC_found ?sRC_found ?sfC_found ?rlC_found ?aC_trusted ?pgC_trusted ?hdC_trusted ?poC_trusted ?saC_trusted ?mkC_trusted ?kcC_trusted ?nC_trusted__told ?nC_trusted_kind ?nC_trusted_tool ?atrusted ?itrusted ?ltrusted ?ctrusted ?ktrusted ?thaC_trusted ?thmC_trusted ?areqC_trusted ?arstrC_trusted ?arlshC_trusted ?arrenC_trusted ?sRC_trusted ?sfC_trusted ?rlC_trusted ?aC_passed ?pgC_passed ?hdC_passed ?poC_passed ?saC_passed ?mkC_passed ?kcC_passed ?nC_passed__told ?nC_passed_kind ?nC_passed_tool ?nC_passed_moment ?nC_passed_by ?apassed ?ipassed ?lpassed ?cpassed ?kpassed ?thaC_passed ?thmC_passed ?areqC_passed ?arstrC_passed ?arlshC_passed ?arrenC_passed ?sRC_passed ?sfC_passed ?rlC_passed ?aC_failed ?pgC_failed ?hdC_failed ?poC_failed ?saC_failed ?mkC_failed ?kcC_failed ?nC_failed__told ?nC_failed_kind ?nC_failed_tool ?nC_failed_moment ?nC_failed_by ?afailed ?ifailed ?lfailed ?cfailed ?kfailed ?thaC_failed ?thmC_failed ?areqC_failed ?arstrC_failed ?arlshC_failed ?arrenC_failed ?sRC_failed ?sfC_failed ?rlC_failed ?aC_agreed ?pgC_agreed ?hdC_agreed ?poC_agreed ?saC_agreed ?mkC_agreed ?kcC_agreed ?nC_agreed__told ?nC_agreed_kind ?nC_agreed_one ?nC_agreed_moment ?nC_agreed_other ?nC_agreed_later ?aagreed ?iagreed ?lagreed ?cagreed ?kagreed ?eagreed ?dagreed ?vagreed ?wagreed ?yagreed ?zagreed ?xagreed ?lmeet ?cmeet ?kmeet ?tmeet ?fnmeet ?thaC_agreed ?thmC_agreed ?areqC_agreed ?arstrC_agreed ?arlshC_agreed ?arrenC_agreed ?sRC_agreed ?sfC_agreed ?rlC_agreed ?aC_differed ?pgC_differed ?hdC_differed ?poC_differed ?saC_differed ?mkC_differed ?kcC_differed ?nC_differed__told ?nC_differed_kind ?nC_differed_one ?nC_differed_moment ?nC_differed_other ?nC_differed_later ?adiffered ?idiffered ?ldiffered ?cdiffered ?kdiffered ?ediffered ?ddiffered ?vdiffered ?wdiffered ?ydiffered ?zdiffered ?xdiffered ?thaC_differed ?thmC_differed ?areqC_differed ?arstrC_differed ?arlshC_differed ?arrenC_differed ?sRC_differed ?sfC_differed ?rlC_differed ?aC_served ?pgC_served ?hdC_served ?poC_served ?saC_served ?mkC_served ?kcC_served ?nC_served__told ?nC_served_kind ?nC_served_one ?nC_served_moment ?nC_served_other ?nC_served_later ?aserved ?iserved ?lserved ?cserved ?kserved ?eserved ?dserved ?vserved ?wserved ?yserved ?zserved ?xserved ?thaC_served ?thmC_served ?areqC_served ?arstrC_served ?arlshC_served ?arrenC_served ?sRC_served ?sfC_served ?rlC_served ?aC_backed ?pgC_backed ?hdC_backed ?poC_backed ?saC_backed ?mkC_backed ?kcC_backed ?nC_backed__told ?nC_backed_kind ?nC_backed_one ?nC_backed_moment ?nC_backed_other ?nC_backed_later ?abacked ?ibacked ?lbacked ?cbacked ?kbacked ?ebacked ?dbacked ?vbacked ?wbacked ?ybacked ?zbacked ?xbacked ?thaC_backed ?thmC_backed ?areqC_backed ?arstrC_backed ?arlshC_backed ?arrenC_backed ?sRC_backed ?sfC_backed ?rlC_backed ?hi1 ?hi2 ?opq ?tops ?gG ?gL ?gA ?gD ?gN ?lN ?vN ?gF ?lF ?klF ?gtbegun ?ltbegun ?vtbegun ?gtsetby ?ltsetby ?vtsetby ?gtfound ?ltfound ?vtfound ?gttrusted ?lttrusted ?vttrusted ?gtpassed ?ltpassed ?vtpassed ?gtfailed ?ltfailed ?vtfailed ?gtagreed ?ltagreed ?vtagreed ?gtdiffered ?ltdiffered ?vtdiffered ?gtserved ?ltserved ?vtserved ?gtbacked ?ltbacked ?vtbacked ?b_isinstance ?b_int ?b_bool ?b_str ?b_len ?b_all ?b_list ?b_tuple ?b_abs ?b_repr ?b_zip ?b_ValueError ?b_super ?aT ?iT ?tT ?eT ?sT ?aN ?xN ?seN ?geN ?heN ?neN ?aeN ?teN ?leN ?ceN ?keN ?kkeN ?exeN ?tyeN ?hdeN ?iceN ?veeN ?uteN ?caeN ?cmeN ?aM ?xM ?seM ?geM ?heM ?neM ?aeM ?teM ?leM ?ceM ?keM ?kkeM ?exeM ?tyeM ?hdeM ?iceM ?veeM ?uteM ?caeM ?cmeM ?aS ?xS ?seS ?geS ?heS ?neS ?aeS ?teS ?leS ?ceS ?keS ?kkeS ?exeS ?tyeS ?hdeS ?iceS ?veeS ?uteS ?caeS ?cmeS ?aO ?xO ?seO ?geO ?heO ?neO ?aeO ?teO ?leO ?ceO ?keO ?kkeO ?exeO ?tyeO ?hdeO ?iceO ?veeO ?uteO ?caeO ?cmeO ?uNN ?uNM ?uNO ?uMN ?uMM ?uMO ?uON ?uOM ?uOO ?lcmvr ?vcmvr ?nTmvr ?lcrnr ?vcrnr ?nTrnr ?nePP
    (case apen => k_is)
    (case lpen => k_is)
    (case cpen => k_is)
    (case kpen => k_is)
    (case adraw => k_is)
    (case ldraw => k_is)
    (case cdraw => k_is)
    (case kdraw => k_is)
    (case apick => k_is)
    (case lpick => k_is)
    (case cpick => k_is)
    (case kpick => k_is)
    (case awords => k_is)
    (case lwords => k_is)
    (case cwords => k_is)
    (case kwords => k_is)
    (case aoddn => k_is)
    (case loddn => k_is)
    (case coddn => k_is)
    (case koddn => k_is)
    (case atick => k_is)
    (case ltick => k_is)
    (case ctick => k_is)
    (case ktick => k_is)
    (case alkinds => k_is)
    (case llkinds => k_is)
    (case clkinds => k_is)
    (case klkinds => k_is)
    (case adrawn => k_is)
    (case ldrawn => k_is)
    (case cdrawn => k_is)
    (case kdrawn => k_is)
    (case acrew => k_is)
    (case lcrew => k_is)
    (case ccrew => k_is)
    (case kcrew => k_is)
    (case anamed => k_is)
    (case lnamed => k_is)
    (case cnamed => k_is)
    (case knamed => k_is)
    (case altext => k_is)
    (case lltext => k_is)
    (case cltext => k_is)
    (case kltext => k_is)
    (case almade => k_is)
    (case llmade => k_is)
    (case clmade => k_is)
    (case klmade => k_is)
    (case aheard => k_is)
    (case lheard => k_is)
    (case cheard => k_is)
    (case kheard => k_is)
    (case amoved => k_is)
    (case lmoved => k_is)
    (case cmoved => k_is)
    (case kmoved => k_is)
    (case amvr => k_is)
    (case lmvr => k_is)
    (case cmvr => k_is)
    (case kmvr => k_is)
    (case alnames => k_is)
    (case llnames => k_is)
    (case clnames => k_is)
    (case klnames => k_is)
    (case arnr => k_is)
    (case lrnr => k_is)
    (case crnr => k_is)
    (case krnr => k_is)
    (case alis => k_is)
    (case llis => k_is)
    (case clis => k_is)
    (case klis => k_is)
    (case alaw => k_is)
    (case llaw => k_is)
    (case claw => k_is)
    (case klaw => k_is)
    (case awhole => k_is)
    (case lwhole => k_is)
    (case cwhole => k_is)
    (case kwhole => k_is)
    (case amoment => k_is)
    (case lmoment => k_is)
    (case cmoment => k_is)
    (case kmoment => k_is)
    (case aisname => k_is)
    (case lisname => k_is)
    (case cisname => k_is)
    (case kisname => k_is)
    (case acheck => k_is)
    (case lcheck => k_is)
    (case ccheck => k_is)
    (case kcheck => k_is)
    (case achecked => k_is)
    (case lchecked => k_is)
    (case cchecked => k_is)
    (case kchecked => k_is)
    (case awordof => k_is)
    (case lwordof => k_is)
    (case cwordof => k_is)
    (case kwordof => k_is)
    (case amadeRow => k_is)
    (case lmadeRow => k_is)
    (case cmadeRow => k_is)
    (case kmadeRow => k_is)
    (case thn => k_is)
    (case tht => k_is)
    (case gR => k_is)
    (case icR => k_is)
    (case tyR => k_is)
    (case sbR => k_is)
    (case aC_begun => k_is)
    (case pgC_begun => k_is)
    (case hdC_begun => k_is)
    (case poC_begun => k_is)
    (case saC_begun => k_is)
    (case mkC_begun => k_is)
    (case kcC_begun => k_is)
    (case nC_begun__told => k_is)
    (case nC_begun_kind => k_is)
    (case nC_begun_tool => k_is)
    (case nC_begun_moment => k_is)
    (case abegun => k_is)
    (case ibegun => k_is)
    (case lbegun => k_is)
    (case cbegun => k_is)
    (case kbegun => k_is)
    (case thaC_begun => k_is)
    (case thmC_begun => k_is)
    (case areqC_begun => k_is)
    (case ireq => k_is)
    (case lreq => k_is)
    (case creq => k_is)
    (case kreq => k_is)
    (case arstrC_begun => k_is)
    (case irstr => k_is)
    (case lrstr => k_is)
    (case crstr => k_is)
    (case krstr => k_is)
    (case arlshC_begun => k_is)
    (case irlsh => k_is)
    (case lrlsh => k_is)
    (case crlsh => k_is)
    (case krlsh => k_is)
    (case arrenC_begun => k_is)
    (case irren => k_is)
    (case lrren => k_is)
    (case crren => k_is)
    (case krren => k_is)
    (case sRC_begun => k_is)
    (case sfC_begun => k_is)
    (case rlC_begun => k_is)
    (case aC_setby => k_is)
    (case pgC_setby => k_is)
    (case hdC_setby => k_is)
    (case poC_setby => k_is)
    (case saC_setby => k_is)
    (case mkC_setby => k_is)
    (case kcC_setby => k_is)
    (case nC_setby__told => k_is)
    (case nC_setby_kind => k_is)
    (case nC_setby_tool => k_is)
    (case nC_setby_moment => k_is)
    (case nC_setby_by => k_is)
    (case asetby => k_is)
    (case isetby => k_is)
    (case lsetby => k_is)
    (case csetby => k_is)
    (case ksetby => k_is)
    (case thaC_setby => k_is)
    (case thmC_setby => k_is)
    (case areqC_setby => k_is)
    (case arstrC_setby => k_is)
    (case arlshC_setby => k_is)
    (case arrenC_setby => k_is)
    (case sRC_setby => k_is)
    (case sfC_setby => k_is)
    (case rlC_setby => k_is)
    (case aC_found => k_is)
    (case pgC_found => k_is)
    (case hdC_found => k_is)
    (case poC_found => k_is)
    (case saC_found => k_is)
    (case mkC_found => k_is)
    (case kcC_found => k_is)
    (case nC_found__told => k_is)
    (case nC_found_kind => k_is)
    (case nC_found_tool => k_is)
    (case nC_found_moment => k_is)
    (case nC_found_is_sound => k_is)
    (case afound => k_is)
    (case ifound => k_is)
    (case lfound => k_is)
    (case cfound => k_is)
    (case kfound => k_is)
    (case thaC_found => k_is)
    (case thmC_found => k_is)
    (case areqC_found => k_is)
    (case arstrC_found => k_is)
    (case arlshC_found => k_is)
    (case arrenC_found => k_is)
    (case sRC_found => k_is)
    (case sfC_found => k_is)
    (case rlC_found => k_is)
    (case aC_trusted => k_is)
    (case pgC_trusted => k_is)
    (case hdC_trusted => k_is)
    (case poC_trusted => k_is)
    (case saC_trusted => k_is)
    (case mkC_trusted => k_is)
    (case kcC_trusted => k_is)
    (case nC_trusted__told => k_is)
    (case nC_trusted_kind => k_is)
    (case nC_trusted_tool => k_is)
    (case atrusted => k_is)
    (case itrusted => k_is)
    (case ltrusted => k_is)
    (case ctrusted => k_is)
    (case ktrusted => k_is)
    (case thaC_trusted => k_is)
    (case thmC_trusted => k_is)
    (case areqC_trusted => k_is)
    (case arstrC_trusted => k_is)
    (case arlshC_trusted => k_is)
    (case arrenC_trusted => k_is)
    (case sRC_trusted => k_is)
    (case sfC_trusted => k_is)
    (case rlC_trusted => k_is)
    (case aC_passed => k_is)
    (case pgC_passed => k_is)
    (case hdC_passed => k_is)
    (case poC_passed => k_is)
    (case saC_passed => k_is)
    (case mkC_passed => k_is)
    (case kcC_passed => k_is)
    (case nC_passed__told => k_is)
    (case nC_passed_kind => k_is)
    (case nC_passed_tool => k_is)
    (case nC_passed_moment => k_is)
    (case nC_passed_by => k_is)
    (case apassed => k_is)
    (case ipassed => k_is)
    (case lpassed => k_is)
    (case cpassed => k_is)
    (case kpassed => k_is)
    (case thaC_passed => k_is)
    (case thmC_passed => k_is)
    (case areqC_passed => k_is)
    (case arstrC_passed => k_is)
    (case arlshC_passed => k_is)
    (case arrenC_passed => k_is)
    (case sRC_passed => k_is)
    (case sfC_passed => k_is)
    (case rlC_passed => k_is)
    (case aC_failed => k_is)
    (case pgC_failed => k_is)
    (case hdC_failed => k_is)
    (case poC_failed => k_is)
    (case saC_failed => k_is)
    (case mkC_failed => k_is)
    (case kcC_failed => k_is)
    (case nC_failed__told => k_is)
    (case nC_failed_kind => k_is)
    (case nC_failed_tool => k_is)
    (case nC_failed_moment => k_is)
    (case nC_failed_by => k_is)
    (case afailed => k_is)
    (case ifailed => k_is)
    (case lfailed => k_is)
    (case cfailed => k_is)
    (case kfailed => k_is)
    (case thaC_failed => k_is)
    (case thmC_failed => k_is)
    (case areqC_failed => k_is)
    (case arstrC_failed => k_is)
    (case arlshC_failed => k_is)
    (case arrenC_failed => k_is)
    (case sRC_failed => k_is)
    (case sfC_failed => k_is)
    (case rlC_failed => k_is)
    (case aC_agreed => k_is)
    (case pgC_agreed => k_is)
    (case hdC_agreed => k_is)
    (case poC_agreed => k_is)
    (case saC_agreed => k_is)
    (case mkC_agreed => k_is)
    (case kcC_agreed => k_is)
    (case nC_agreed__told => k_is)
    (case nC_agreed_kind => k_is)
    (case nC_agreed_one => k_is)
    (case nC_agreed_moment => k_is)
    (case nC_agreed_other => k_is)
    (case nC_agreed_later => k_is)
    (case aagreed => k_is)
    (case iagreed => k_is)
    (case lagreed => k_is)
    (case cagreed => k_is)
    (case kagreed => k_is)
    (case eagreed => k_is)
    (case dagreed => k_is)
    (case vagreed => rfl)
    (case wagreed => rfl)
    (case yagreed => k_is)
    (case zagreed => first | k_is | kernel_rfl | rfl)
    (case xagreed => ks_is)
    (case lmeet => k_is)
    (case cmeet => k_is)
    (case kmeet => k_is)
    (case tmeet => k_is)
    (case fnmeet => k_is)
    (case thaC_agreed => k_is)
    (case thmC_agreed => k_is)
    (case areqC_agreed => k_is)
    (case arstrC_agreed => k_is)
    (case arlshC_agreed => k_is)
    (case arrenC_agreed => k_is)
    (case sRC_agreed => k_is)
    (case sfC_agreed => k_is)
    (case rlC_agreed => k_is)
    (case aC_differed => k_is)
    (case pgC_differed => k_is)
    (case hdC_differed => k_is)
    (case poC_differed => k_is)
    (case saC_differed => k_is)
    (case mkC_differed => k_is)
    (case kcC_differed => k_is)
    (case nC_differed__told => k_is)
    (case nC_differed_kind => k_is)
    (case nC_differed_one => k_is)
    (case nC_differed_moment => k_is)
    (case nC_differed_other => k_is)
    (case nC_differed_later => k_is)
    (case adiffered => k_is)
    (case idiffered => k_is)
    (case ldiffered => k_is)
    (case cdiffered => k_is)
    (case kdiffered => k_is)
    (case ediffered => k_is)
    (case ddiffered => k_is)
    (case vdiffered => rfl)
    (case wdiffered => rfl)
    (case ydiffered => k_is)
    (case zdiffered => first | k_is | kernel_rfl | rfl)
    (case xdiffered => ks_is)
    (case thaC_differed => k_is)
    (case thmC_differed => k_is)
    (case areqC_differed => k_is)
    (case arstrC_differed => k_is)
    (case arlshC_differed => k_is)
    (case arrenC_differed => k_is)
    (case sRC_differed => k_is)
    (case sfC_differed => k_is)
    (case rlC_differed => k_is)
    (case aC_served => k_is)
    (case pgC_served => k_is)
    (case hdC_served => k_is)
    (case poC_served => k_is)
    (case saC_served => k_is)
    (case mkC_served => k_is)
    (case kcC_served => k_is)
    (case nC_served__told => k_is)
    (case nC_served_kind => k_is)
    (case nC_served_one => k_is)
    (case nC_served_moment => k_is)
    (case nC_served_other => k_is)
    (case nC_served_later => k_is)
    (case aserved => k_is)
    (case iserved => k_is)
    (case lserved => k_is)
    (case cserved => k_is)
    (case kserved => k_is)
    (case eserved => k_is)
    (case dserved => k_is)
    (case vserved => rfl)
    (case wserved => rfl)
    (case yserved => k_is)
    (case zserved => first | k_is | kernel_rfl | rfl)
    (case xserved => ks_is)
    (case thaC_served => k_is)
    (case thmC_served => k_is)
    (case areqC_served => k_is)
    (case arstrC_served => k_is)
    (case arlshC_served => k_is)
    (case arrenC_served => k_is)
    (case sRC_served => k_is)
    (case sfC_served => k_is)
    (case rlC_served => k_is)
    (case aC_backed => k_is)
    (case pgC_backed => k_is)
    (case hdC_backed => k_is)
    (case poC_backed => k_is)
    (case saC_backed => k_is)
    (case mkC_backed => k_is)
    (case kcC_backed => k_is)
    (case nC_backed__told => k_is)
    (case nC_backed_kind => k_is)
    (case nC_backed_one => k_is)
    (case nC_backed_moment => k_is)
    (case nC_backed_other => k_is)
    (case nC_backed_later => k_is)
    (case abacked => k_is)
    (case ibacked => k_is)
    (case lbacked => k_is)
    (case cbacked => k_is)
    (case kbacked => k_is)
    (case ebacked => k_is)
    (case dbacked => k_is)
    (case vbacked => rfl)
    (case wbacked => rfl)
    (case ybacked => k_is)
    (case zbacked => first | k_is | kernel_rfl | rfl)
    (case xbacked => ks_is)
    (case thaC_backed => k_is)
    (case thmC_backed => k_is)
    (case areqC_backed => k_is)
    (case arstrC_backed => k_is)
    (case arlshC_backed => k_is)
    (case arrenC_backed => k_is)
    (case sRC_backed => k_is)
    (case sfC_backed => k_is)
    (case rlC_backed => k_is)
    (case hi1 => k_is)
    (case hi2 => k_is)
    (case opq => k_is)
    (case tops => rfl)
    (case gG => k_is)
    (case gL => k_is)
    (case gA => k_is)
    (case gD => k_is)
    (case gN => k_is)
    (case lN => k_is)
    (case vN => rfl)
    (case gF => k_is)
    (case lF => k_is)
    (case klF => exact ⟨⟨_, _, rfl, rfl⟩, ⟨_, _, rfl, rfl⟩, ⟨_, _, rfl, rfl⟩, ⟨_, _, rfl, rfl⟩, ⟨_, _, rfl, rfl⟩, ⟨_, _, rfl, rfl⟩, ⟨_, _, rfl, rfl⟩, ⟨_, _, rfl, rfl⟩, ⟨_, _, rfl, rfl⟩, ⟨_, _, rfl, rfl⟩, trivial⟩)
    (case gtbegun => k_is)
    (case ltbegun => k_is)
    (case vtbegun => rfl)
    (case gtsetby => k_is)
    (case ltsetby => k_is)
    (case vtsetby => rfl)
    (case gtfound => k_is)
    (case ltfound => k_is)
    (case vtfound => rfl)
    (case gttrusted => k_is)
    (case lttrusted => k_is)
    (case vttrusted => rfl)
    (case gtpassed => k_is)
    (case ltpassed => k_is)
    (case vtpassed => rfl)
    (case gtfailed => k_is)
    (case ltfailed => k_is)
    (case vtfailed => rfl)
    (case gtagreed => k_is)
    (case ltagreed => k_is)
    (case vtagreed => rfl)
    (case gtdiffered => k_is)
    (case ltdiffered => k_is)
    (case vtdiffered => rfl)
    (case gtserved => k_is)
    (case ltserved => k_is)
    (case vtserved => rfl)
    (case gtbacked => k_is)
    (case ltbacked => k_is)
    (case vtbacked => rfl)
    (case b_isinstance => k_is)
    (case b_int => k_is)
    (case b_bool => k_is)
    (case b_str => k_is)
    (case b_len => k_is)
    (case b_all => k_is)
    (case b_list => k_is)
    (case b_tuple => k_is)
    (case b_abs => k_is)
    (case b_repr => k_is)
    (case b_zip => k_is)
    (case b_ValueError => k_is)
    (case b_super => k_is)
    (case aT => k_is)
    (case iT => k_is)
    (case tT => k_is)
    (case eT => k_is)
    (case sT => k_is)
    (case aN => k_is)
    (case xN => k_is)
    (case seN => k_is)
    (case geN => k_is)
    (case heN => k_is)
    (case neN => k_is)
    (case aeN => k_is)
    (case teN => k_is)
    (case leN => k_is)
    (case ceN => k_is)
    (case keN => k_is)
    (case kkeN => k_is)
    (case exeN => k_is)
    (case tyeN => k_is)
    (case hdeN => k_is)
    (case iceN => k_is)
    (case veeN => k_is)
    (case uteN => k_is)
    (case caeN => k_is)
    (case cmeN => k_is)
    (case aM => k_is)
    (case xM => k_is)
    (case seM => k_is)
    (case geM => k_is)
    (case heM => k_is)
    (case neM => k_is)
    (case aeM => k_is)
    (case teM => k_is)
    (case leM => k_is)
    (case ceM => k_is)
    (case keM => k_is)
    (case kkeM => k_is)
    (case exeM => k_is)
    (case tyeM => k_is)
    (case hdeM => k_is)
    (case iceM => k_is)
    (case veeM => k_is)
    (case uteM => k_is)
    (case caeM => k_is)
    (case cmeM => k_is)
    (case aS => k_is)
    (case xS => k_is)
    (case seS => k_is)
    (case geS => k_is)
    (case heS => k_is)
    (case neS => k_is)
    (case aeS => k_is)
    (case teS => k_is)
    (case leS => k_is)
    (case ceS => k_is)
    (case keS => k_is)
    (case kkeS => k_is)
    (case exeS => k_is)
    (case tyeS => k_is)
    (case hdeS => k_is)
    (case iceS => k_is)
    (case veeS => k_is)
    (case uteS => k_is)
    (case caeS => k_is)
    (case cmeS => k_is)
    (case aO => k_is)
    (case xO => k_is)
    (case seO => k_is)
    (case geO => k_is)
    (case heO => k_is)
    (case neO => k_is)
    (case aeO => k_is)
    (case teO => k_is)
    (case leO => k_is)
    (case ceO => k_is)
    (case keO => k_is)
    (case kkeO => k_is)
    (case exeO => k_is)
    (case tyeO => k_is)
    (case hdeO => k_is)
    (case iceO => k_is)
    (case veeO => k_is)
    (case uteO => k_is)
    (case caeO => k_is)
    (case cmeO => k_is)
    (case uNN => k_is)
    (case uNM => k_is)
    (case uNO => k_is)
    (case uMN => k_is)
    (case uMM => k_is)
    (case uMO => k_is)
    (case uON => k_is)
    (case uOM => k_is)
    (case uOO => k_is)
    (case lcmvr => k_is)
    (case vcmvr => rfl)
    (case nTmvr => first | kernel_rfl | rfl)
    (case lcrnr => k_is)
    (case vcrnr => rfl)
    (case nTrnr => first | kernel_rfl | rfl)
    (case nePP => decide)
