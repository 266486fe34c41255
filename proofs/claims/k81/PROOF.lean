import PyProof.Rows.All
import Wide.All
import OpenK.AllK
import Wide.FinOn
import KE.OsRunLaw
import KE.RegKSuper
import HandS.Head2
import HandS.ForMost
import HandS.OwnEq
import HandS.IsInst
import HandS.Wide
import HandS.EndBits
import HandS.Property
import KE.LtData
import HandS.NamedTupSort
import HandS.Exc
import HandS.ExcInit
import HandS.ExcIs
import HandS.ExcField
import HandS.TryOnly
import HandS.Lambda
import HandS.ClsMeth
import HandS.MakeKwOnly
import KE.KOpsOwn
import HandS.WordsExc
import HandS.WordsDict
import HandS.Codes
import HandS.Walk
import HandS.Defaults
import HandS.Small
import HandS.LawCells
import HandS.IterVal
import HandS.Zip
import KE.GoesEnum
import KE.GoesMore
import KE.GoesZip
import HandS.Iter
import HandS.Text
import KE.IntTextText
import HandS.FStr
import PyProof.StrLawsTight
import PyProof.StrLawsChain
import PyProof.Rows.StrSplitJoin
import PyProof.Rows.StrItems
import PyProof.Rows.StrSplitAre
import PyProof.FString5
import KE.KCallOwn
import HandS.List
import PyProof.ReprRoads
import PyProof.StrBlock2
import HandS.Words
import PyProof.StrLawsRepr
import HandS.Call
import HandS.ExcOwn
import HandS.EndTab
import HandS.Replace
import PyProof.MeetsStr3
import PyProof.FitsReplace
import PyProof.NeKinds
import PyProof.EqAt
import HandS.More
import HandS.Style
import PySem.Challenge.RW_soundtill_k81_plans_read
set_option Elab.async false
set_option linter.all false
set_option maxRecDepth 100000
set_option maxHeartbeats 8000000
section
open PySem PySem.W PySem.Calls PyProof.Rows
theorem K81.keepH (H : Hook) {p : Prop} (h : p) : p := h
local macro_rules
  | `(tactic| o_headL $H:term) => `(tactic| exact K81.keepH $H (by assumption))
set_option maxHeartbeats 0 in
theorem K81.dummy (h : OpenRow.Holds (OpenLaw.row PySem.Challenge.rw_soundtill_k81_plans_read)) : OpenRow.Holds (OpenLaw.row PySem.Challenge.rw_soundtill_k81_plans_read) := by
  k_headL
abbrev K81.R : OpenRow := OpenLaw.row PySem.Challenge.rw_soundtill_k81_plans_read
def K81.q : Program := view K81.R.prog [0, 2, 3, 4, 5, 6, 7, 9, 10, 11, 12, 13, 14, 15, 16, 17, 18, 19, 20, 21, 22, 23, 24, 25, 27, 28, 29, 30, 31, 32, 33, 34, 35, 36, 37, 38, 39, 40, 41, 42, 43, 44, 46, 47, 48, 50, 51, 53, 54, 55, 56, 58, 59, 60, 61, 62, 63, 64, 65, 66, 67, 68, 69, 70]
def K81.loose : List PySem.Str := [PySem.Str.ofString "FORMS", PySem.Str.ofString "Row", PySem.Str.ofString "SetBy", PySem.Str.ofString "Entry", PySem.Str.ofString "Plan"]
def K81.as : List Addr := [2, 3, 15, 17, 18, 20, 21, 22, 29, 30, 31, 32, 35, 42, 44, 45, 47, 48, 49, 50, 51, 54, 61, 63, 64, 66, 67, 68, 69, 70, 73, 80, 82, 83, 85, 86, 87, 88, 89, 92, 99, 101, 102, 104, 105, 106, 107, 108, 111, 118, 120, 121, 123, 124, 125, 126, 127, 130, 131, 133, 134, 136, 137, 138, 140, 141, 143, 144, 145, 148, 149, 150, 152, 153, 155, 156, 157, 160, 161, 162, 164, 165, 167, 168, 169, 171, 172, 174, 175, 176, 178, 179, 181, 182, 183, 186, 187, 188, 190, 191, 193, 194, 195, 197, 198, 200, 201, 202, 203, 204, 205, 206, 207, 208, 209, 210, 211, 212, 213, 215, 216, 218, 219, 227, 228, 230, 231, 233, 234, 235, 236, 237, 238, 240, 241, 243, 244, 245, 246, 248, 249, 251, 252, 253, 254, 256, 257, 259, 260, 261, 262, 265, 266, 267, 269, 270, 272, 273, 274, 277, 278, 279, 281, 282, 284, 285, 286, 288, 289, 291, 292, 293, 296, 297, 298, 299, 300, 301, 302, 305, 312, 313, 314, 317, 324, 325, 326, 329, 336, 338, 339, 341, 342, 343, 344, 345, 348, 355, 357, 358, 360, 361, 362, 364, 365, 367, 368, 369, 370, 371, 374, 381, 383, 384, 386, 387, 388, 390, 391, 393, 394, 395, 396, 397, 400, 407, 409, 410, 412, 413, 414, 416, 417, 419, 420, 421, 422, 423, 426, 433, 435, 436, 438, 439, 440, 442, 443, 445, 446, 447, 448, 449, 452, 459, 461, 462, 464, 465, 466, 468, 469, 471, 472, 473, 474, 475, 478, 485, 487, 488, 490, 491, 492, 494, 495, 497, 498, 499, 500, 501, 504, 507, 512, 513, 515, 516, 518, 519, 520, 522, 523, 525, 526, 527, 528, 529, 532, 535, 540, 541, 543, 544, 546, 547, 548, 550, 551, 553, 554, 555, 556, 557, 560, 563, 568, 569, 571, 572, 574, 575, 576, 578, 579, 581, 582, 583, 584, 585, 588, 591, 596, 597, 599, 600, 602, 603, 604, 606, 607, 609, 610, 611, 612, 613, 616, 618, 619, 621, 622, 623, 625, 626, 628, 629, 630, 632, 633, 635, 636, 637, 640, 641, 642, 644, 645, 647, 648, 649, 657, 659, 660, 662, 663, 664, 666, 667, 669, 670, 671, 672, 673, 674, 676, 677, 679, 680, 681, 682, 684, 685, 687, 688, 689, 690, 692, 693, 695, 696, 697, 699, 700, 702, 703, 704, 706, 707, 709, 710, 711, 713, 714, 716, 717, 718, 719, 720, 721, 722, 732, 734, 735, 737, 738, 739, 741, 742, 744, 745, 746, 747, 749, 750, 752, 753, 754, 755, 757, 758, 760, 761, 762, 763, 764, 765, 767, 768, 770, 771, 772, 773, 774, 775, 777, 778, 780, 781, 782, 783, 784, 785, 788, 789, 790, 793, 794, 795, 797, 798, 800, 801, 802, 804, 805, 807, 808, 809, 810, 812, 813, 815, 816, 817, 819, 820, 822, 823, 824, 826, 827, 829, 830, 831, 833, 834, 836, 837, 838, 839, 840, 841, 842, 845, 847, 848, 850, 851, 852, 854, 855, 857, 858, 859, 861, 862, 864, 865, 866, 868, 869, 871, 872, 873, 875, 876, 878, 879, 880, 882, 883, 885, 886, 887, 889, 890, 892, 893, 894, 897, 898, 899, 902, 903, 904, 906, 907, 909, 910, 911, 913, 914, 916, 917, 918, 920, 921, 923, 924, 925, 928, 929, 930, 932, 933, 935, 936, 937, 939, 940, 942, 943]
theorem K81.as_eq (P : Params) : K81.as = (K81.dummy.heap_1 P).map (·.1) := by kernel_rfl
def K81.Run (w : World) : Prop := ∀ os : OsState, (HeadRun.endF (HeadRun.stepQ (HeadRun.denQ HeadRun.tabQ) K81.R.prog w) 15300 K81.R.prog w os).map (fun s => (HeadRun.looksF K81.R.prog (boot_heap w.params) s.abs, HeadRun.seenQ K81.q K81.loose (importedModules K81.R.prog.main.body) (fun s => xlAt K81.q [] s && recOk (RowW.records K81.R.toRowW) s) s.abs, K81.as.map (HeadRun.getT s))) = some (true, openGood K81.q K81.loose, (K81.dummy.heap_1 w.params).map fun x => some x.2)
end

section
open PySem PySem.W PySem.Calls PyProof.Rows
noncomputable def K81.qs (s : SharedT) := HeadRun.seenQ K81.q K81.loose (importedModules K81.R.prog.main.body) (fun s => xlAt K81.q [] s && recOk (RowW.records K81.R.toRowW) s) s.abs
noncomputable def K81.ys (s : SharedT) := K81.as.map (HeadRun.getT s)
noncomputable def K81.gd := openGood K81.q K81.loose
noncomputable def K81.EF (w : World) (os : OsState) := HeadRun.endF (HeadRun.stepQ (HeadRun.denQ HeadRun.tabQ) K81.R.prog (w.withFollow "special-get-raises" false)) 15300 K81.R.prog (w.withFollow "special-get-raises" false) os
noncomputable def K81.lkF (w : World) (s : SharedT) : Bool := HeadRun.looksF K81.R.prog (boot_heap (w.withFollow "special-get-raises" false).params) s.abs
noncomputable def K81.yvF (w : World) := (K81.dummy.heap_1 (w.withFollow "special-get-raises" false).params).map fun x => some x.2
theorem K81.runAF (w : World) (os : OsState) : (K81.EF w os).map (fun s => (K81.lkF w s, K81.ys s, (K81.qs s).1)) = some (true, K81.yvF w, K81.gd.1) := by
  kernel_rfl
theorem K81.runBF (w : World) (os : OsState) : (K81.EF w os).map (fun s => ((K81.qs s).2.1, (K81.qs s).2.2.2)) = some (K81.gd.2.1, K81.gd.2.2.2) := by
  kernel_rfl
theorem K81.runCF (w : World) (os : OsState) : (K81.EF w os).map (fun s => (K81.qs s).2.2.1) = some K81.gd.2.2.1 := by
  kernel_rfl
noncomputable def K81.ET (w : World) (os : OsState) := HeadRun.endF (HeadRun.stepQ (HeadRun.denQ HeadRun.tabQ) K81.R.prog (w.withFollow "special-get-raises" true)) 15300 K81.R.prog (w.withFollow "special-get-raises" true) os
noncomputable def K81.lkT (w : World) (s : SharedT) : Bool := HeadRun.looksF K81.R.prog (boot_heap (w.withFollow "special-get-raises" true).params) s.abs
noncomputable def K81.yvT (w : World) := (K81.dummy.heap_1 (w.withFollow "special-get-raises" true).params).map fun x => some x.2
theorem K81.runAT (w : World) (os : OsState) : (K81.ET w os).map (fun s => (K81.lkT w s, K81.ys s, (K81.qs s).1)) = some (true, K81.yvT w, K81.gd.1) := by
  kernel_rfl
theorem K81.runBT (w : World) (os : OsState) : (K81.ET w os).map (fun s => ((K81.qs s).2.1, (K81.qs s).2.2.2)) = some (K81.gd.2.1, K81.gd.2.2.2) := by
  kernel_rfl
theorem K81.runCT (w : World) (os : OsState) : (K81.ET w os).map (fun s => (K81.qs s).2.2.1) = some K81.gd.2.2.1 := by
  kernel_rfl
theorem K81.cut {S A B T1 T2 T3 R : Type} {E : Option S} (l : S → A) (q : S → T1 × T2 × T3 × R) (y : S → B) {a : A} {g : T1 × T2 × T3 × R} {b : B}
    (hA : E.map (fun s => (l s, y s, (q s).1)) = some (a, b, g.1)) (hB : E.map (fun s => ((q s).2.1, (q s).2.2.2)) = some (g.2.1, g.2.2.2))
    (hC : E.map (fun s => (q s).2.2.1) = some g.2.2.1) : E.map (fun s => (l s, q s, y s)) = some (a, g, b) := by
  cases E with
  | none => cases hA
  | some s =>
    obtain ⟨h1, h2, h3⟩ : l s = a ∧ y s = b ∧ (q s).1 = g.1 := by simpa only [Option.map_some, Option.some.injEq, Prod.mk.injEq] using hA
    obtain ⟨h4, h5⟩ : (q s).2.1 = g.2.1 ∧ (q s).2.2.2 = g.2.2.2 := by simpa only [Option.map_some, Option.some.injEq, Prod.mk.injEq] using hB
    have h6 : (q s).2.2.1 = g.2.2.1 := by simpa only [Option.map_some, Option.some.injEq] using hC
    have hq : q s = g := Prod.ext h3 (Prod.ext h4 (Prod.ext h6 h5))
    show some (l s, q s, y s) = _
    rw [h1, h2, hq]
theorem K81.bothF (w : World) : (∀ os : OsState, (K81.EF w os).map (fun s => (K81.lkF w s, K81.qs s, K81.ys s)) = some (true, K81.gd, K81.yvF w)) = K81.Run (w.withFollow "special-get-raises" false) := by
  kernel_rfl
theorem K81.runF (w : World) : K81.Run (w.withFollow "special-get-raises" false) := (K81.bothF w).mp fun os => K81.cut (K81.lkF w) K81.qs K81.ys (K81.runAF w os) (K81.runBF w os) (K81.runCF w os)
theorem K81.bothT (w : World) : (∀ os : OsState, (K81.ET w os).map (fun s => (K81.lkT w s, K81.qs s, K81.ys s)) = some (true, K81.gd, K81.yvT w)) = K81.Run (w.withFollow "special-get-raises" true) := by
  kernel_rfl
theorem K81.runT (w : World) : K81.Run (w.withFollow "special-get-raises" true) := (K81.bothT w).mp fun os => K81.cut (K81.lkT w) K81.qs K81.ys (K81.runAT w os) (K81.runBT w os) (K81.runCT w os)
theorem K81.byRowAll (row : String) {P : World → Prop} (hf : ∀ w : World, P (w.withFollow row false)) (ht : ∀ w : World, P (w.withFollow row true)) : ∀ w, P w := fun w => byRow2 row hf ht w
end

/-! So: rules of our own over the hand layer. Runs whose guards are known (for repr), repr of data, == and != by an own __eq__ with both answers, < of data, a method's call with keywords. -/
namespace So
open PySem PySem.Spec PyProof.Rows L2

/-! ### repr of data -/
mutual
theorem dp_noDict {K : PySem.W.Frag} {H : Hp} : ∀ (d : PyData) (v : V), Dp K H v d → d.hasDict = false
  | .none, _, _ => rfl
  | .bool _, _, _ => rfl
  | .int _, _, _ => rfl
  | .str _, _, _ => rfl
  | .list ds, _, h => by
    cases h with
    | lst _ ha => simpa [PyData.hasDict] using dp_noDictAll ds _ ha
  | .tuple ds, _, h => by
    cases h with
    | tup _ ha => simpa [PyData.hasDict] using dp_noDictAll ds _ ha
  | .dict _, _, h => by cases h
theorem dp_noDictAll {K : PySem.W.Frag} {H : Hp} : ∀ (ds : List PyData) (vs : List V), DpAll K H vs ds → PyData.hasDictAll ds = false
  | [], _, _ => rfl
  | d :: ds, _, h => by
    cases h with
    | cons h1 h2 => simp [PyData.hasDictAll, dp_noDict d _ h1, dp_noDictAll ds _ h2]
end

/-- repr(x): what it asks -/
def rRepr (K : PySem.W.Frag) : List V → Hp → VK → Prop := fun xs H Q => ∃ v d, xs = [v] ∧ Dp K H v d ∧ d.showable = true ∧ d.depth ≤ 60 ∧ d.shown.length ≤ sizeLine ∧ Q (.str d.shown) H
section
variable {X : Cx}
theorem call_reprD (hg : X.A.guards = some []) (hu : X.A.units + 64 < cLine) : CallR X (.builtin "repr") (rRepr X.K) := by
  intro pins s σ H xs us Q I r h
  obtain ⟨v, d, rfl, hd, hs, hdep, hz, q⟩ := h
  obtain ⟨u, rfl, rv⟩ := vals1 r
  obtain ⟨as, rd⟩ := Dp.reads I d v u hd rv
  have nd : d.hasDict = false := dp_noDict d v hd
  cases v with
  | ref a =>
    cases rv
    refine repr_of_reads' rd hs (fun z => by rw [nd] at z; cases z) hg (by omega) (fun _ _ e => e) (fun h' t tk k => ?_) hz
    exact ⟨.str d.shown, H, I.kept k, ⟨t, rfl⟩, q⟩
  | non =>
    cases hd
    cases rv
    exact PySem.P.repr_of_none ⟨.str _, H, I.tok _, ⟨_, rfl⟩, q⟩
  | bl b =>
    cases hd
    cases rv
    refine PySem.P.repr_of_bool ⟨.str (PyData.shown (.bool b)), H, I.tok _, ⟨s.toks, ?_⟩, q⟩
    cases b <;> rfl
  | int i =>
    cases hd
    obtain ⟨t, rfl⟩ := rv
    exact PySem.P.repr_of_int (by simpa [PyData.showable] using hs) ⟨.str _, H, I.tok _, ⟨_, rfl⟩, q⟩
  | str x =>
    cases hd
    obtain ⟨t, rfl⟩ := rv
    exact PySem.P.repr_of_str ⟨.str _, H, I.tok _, ⟨_, rfl⟩, q⟩ hz
  | byt b => cases hd
  | flt b => cases hd
  | ty n => cases hd

/-! ### < of data -/
def rLtD (K : PySem.W.Frag) : R2 := fun x y H Q => ∃ d e, Dp K H x d ∧ Dp K H y e ∧ PySem.W.alike d e = true ∧ d ≠ .none ∧ d.depth ≤ 60 ∧ Q (.bl (PySem.W.dataLt d e)) H
theorem op_ltD (hu : X.A.units + 64 < cLine) : OpR X (compareOp .Lt) (rLtD X.K) := by
  intro pins s σ H x y v u Q I rx ry h
  obtain ⟨d, e, hd, he, al, nn, dep, q⟩ := h
  obtain ⟨as, r1⟩ := Dp.reads I d x v hd rx
  obtain ⟨bs, r2⟩ := Dp.reads I e y u he ry
  have hm : min d.depth e.depth ≤ d.depth := Nat.min_le_left _ _
  exact PySem.W.rcLt_alike d e X.A s v u as bs r1 r2 al nn (by omega) _ _ _ _ ⟨.bl _, H, I, rfl, q⟩
end
end So

namespace So
open PySem PySem.Spec PyProof.Rows L2

/-! ### == and != by an own __eq__, both answers -/
/-- x is an instance of C, y of a type that is no class below C; the own __eq__ answers b -/
def rOwn (C : Addr) (K : PySem.W.Frag) (sp : Sp) (E : XK) (g : Bool → Bool) : R2 := fun x y H Q => ∃ a dx fs t, x = .ref a ∧ H a = some (.ins C dx fs) ∧ TyX K H y t ∧ PySem.W.notFirst K C t = true ∧
  sp [.ref a, y] H (fun v H' => ∃ b, v = .bl b ∧ Q (.bl (g b)) H') E
section
variable {X : Cx} {CX : CXT} {k : Nat} {C f : Addr} {fd : FuncData} {ps : List Str} {sp : Sp} {E : XK}
/-- what is wanted of a comparison's answer -/
def BlP (X : Cx) (pins : List (Addr × Obj)) (σ : L2.St) (g : Bool → Bool) (Q : VK) (v : Value) (s' : Shared) : Prop := ∃ b H', v = .bool b ∧ Inv X pins σ H' s' ∧ Q (.bl (g b)) H'
theorem run_eq {pins : List (Addr × Obj)} {s : Shared} {σ : L2.St} {H : Hp} {a dx : Addr} {fs : List (Str × V)} {y : V} {u : Value} {Q : VK} {g : Bool → Bool} {A : Around} (F : FnOk X.prog X.w X.K X.mg X.base CX k f fd ps sp) (hb : Binds X.K fd ps [])
    (hx : Passes CX X E) (hr : Room k A) (hf : A.frames = X.A.frames) (I : Inv X pins σ H s) (ry : RelV y u) (h : sp [.ref a, y] H (fun v H' => ∃ b, v = .bl b ∧ Q (.bl (g b)) H') E) :
    wpAny (model X.prog X.w) A (call (.ref f) [.ref a, u]) (fun v s' => BlP X pins σ g Q v s') X.xe s := by
  have e0 : Env0 X.prog X.w X.K X.mg X.base A X.stack s H := by
    have e := I.env0
    exact ⟨hf.trans e.frames, e.mod, e.bs, e.bsz, e.funs, e.frf, e.hok, e.bare⟩
  have hl : ([Value.ref a, u] ++ ([] : List Value)).length = ps.length := (F.len _ _ _ _ h : [V.ref a, y].length = ps.length)
  refine wpAny_call (codeAny_mono (F.run A X.stack s H ⟨[.ref a, u], []⟩ ([.ref a, u] ++ []) [.ref a, y] _ E hr e0 (hb s [.ref a, u] I.kIn hl) (.cons rfl (.cons ry .nil)) h) fun r s' hq => ?_)
  cases r with
  | error e => exact hx pins σ H s e s' I hq
  | ok fl =>
    cases fl with
    | ret w =>
      obtain ⟨z, H', I', rz, b, ez, q⟩ := I.after hq
      subst ez
      cases rz
      exact ⟨b, H', rfl, I', q⟩
    | next => exact False.elim hq
    | brk => exact False.elim hq
    | cont => exact False.elim hq

theorem op_eqOwn (F : FnOk X.prog X.w X.K X.mg X.base CX k f fd ps sp) (hs : PySem.W.findIn X.K (.ref C) "__eq__" = some (some (.ref f))) (hf : PySem.W.isFn X.K (.ref f) = true) (hb : Binds X.K fd ps []) (hx : Passes CX X E) (hr : Room k X.A) :
    OpR X (compareOp .Eq) (rOwn C X.K sp E id) := by
  intro pins s σ H x y v u Q I rx ry h
  obtain ⟨a, dx, fs, t, rfl, ha, ty, nf, q⟩ := h
  cases rx
  obtain ⟨mA, J, _⟩ := ins_get I.hok ha
  obtain ⟨od, J, _⟩ := J.look
  obtain ⟨P, Z, p, _⟩ := kit_of I ry ty
  obtain ⟨m, hF⟩ := I.fr
  show wpAny _ _ (richCompare .Eq (.ref a) u) _ _ s
  refine PySem.W.cmp_K (op := .Eq) (tb := t) hr.units0 hF I.ok.mod.kin J (Z.ty _ _ I.kIn p) nf hs hf ?_
  refine wpAny_mono (run_eq (dx := dx) (fs := fs) F hb hx hr rfl I ry q) (fun w s' z => ?_) fun _ _ z => z
  obtain ⟨b, H', rfl, I', q'⟩ := z
  exact ⟨.bl b, H', I', rfl, q'⟩

/-- != where the class has an own __eq__ and object's __ne__ -/
theorem op_neOwn (F : FnOk X.prog X.w X.K X.mg X.base CX k f fd ps sp) (hs : PySem.W.findIn X.K (.ref C) "__eq__" = some (some (.ref f))) (hf : PySem.W.isFn X.K (.ref f) = true) (hb : Binds X.K fd ps []) (hx : Passes CX X E) (hr : Room (k + 1) X.A)
    (hn : PySem.W.findIn X.K (.ref C) "__ne__" = some (some (.builtin "object.__ne__"))) (hm : PySem.W.mroIn X.K C (.type "object") = some true) : OpR X (compareOp .NotEq) (rOwn C X.K sp E not) := by
  intro pins s σ H x y v u Q I rx ry h
  obtain ⟨a, dx, fs, t, rfl, ha, ty, nf, q⟩ := h
  cases rx
  obtain ⟨mA, J, _⟩ := ins_get I.hok ha
  obtain ⟨od, J, _⟩ := J.look
  obtain ⟨P, Z, p, _⟩ := kit_of I ry ty
  have KI := I.kIn
  have hb' := Z.ty (model X.prog X.w) _ I.kIn p
  have hu : X.A.units < cLine := hr.units0
  show wpAny _ _ (richCompare .NotEq (.ref a) u) _ _ s
  have one : wpAny (model X.prog X.w) X.A (tryCompare (.ref a) "__ne__" u) (fun r s' => ∃ v, r = some v ∧ EP X pins σ Q v s') X.xe s := by
    unfold tryCompare
    refine wpAny_bind (NtL.csib (J.type.andThen (PySem.W.looks_findIn KI hn)) (PySem.F.cmp_object.ne.bind _) (wpAny_call (codeAny_call_builtin PySem.F.cmp_object.ne.plain PySem.F.cmpEntry_ne (PySem.W.check_slot PySem.F.cmpKind_ne PySem.F.cmpSplit_ne (J.type.andThen (PySem.W.looks_mroIn KI hm)) (PySem.F.cmpArgs_ne _ _) ?_))))
    unfold Builtin.«object.__ne__»
    refine wpAny_bind (wpAny_of_eq (a := ((Value.ref a : Value), [u])) (by first | rfl | (simp only [slotArgs]; rfl)) ?_)
    refine wpAny_bind (wpAny_cRoomFor (by show X.A.units + 1 < cLine; have := hr.units; omega) ?_)
    refine wpAny_bind (PySem.W.ifBound_K KI J hs hf (wpAny_mono (run_eq (dx := dx) (fs := fs) F hb hx hr.in1 rfl I ry q) (fun w s' z => ?_) fun _ _ z => z))
    obtain ⟨b, H', rfl, I', q'⟩ := z
    refine wpAny_bind (wpAny_truthy_bool ?_)
    refine wpAny_pure ?_
    exact wpAny_pure ⟨_, rfl, .bl (!b), H', I', rfl, q'⟩
  unfold richCompare
  simp only [oneThing_ref]
  refine wpAny_holding (wpAny_bind (wpAny_cRoomFor hu ?_))
  refine wpAny_bind (J.type.here (wpAny_bind (hb'.here ?_)))
  have fin : wpAny (model X.prog X.w) X.A (tryCompare (.ref a) "__ne__" u) (fun r s' => ∃ v, r = some v ∧ EP X pins σ Q v s') X.xe s := one
  split
  · rename_i z
    have e : PySem.W.subIn X.K t (.ref C) = some false := by
      rcases Bool.or_eq_true_iff.mp nf with e | e
      · rw [beq_iff_eq.mp e] at z; simp at z
      · exact beq_iff_eq.mp e
    refine wpAny_bind ((PySem.W.looks_subIn KI e).here ?_)
    simp only [Bool.false_eq_true, if_false]
    exact wpAny_bind (wpAny_mono fin (fun r s' z => by obtain ⟨v, rfl, hq⟩ := z; exact wpAny_pure hq) fun _ _ e => e)
  · refine wpAny_bind (wpAny_pure ?_)
    simp only [Bool.false_eq_true, if_false]
    exact wpAny_bind (wpAny_mono fin (fun r s' z => by obtain ⟨v, rfl, hq⟩ := z; exact wpAny_pure hq) fun _ _ e => e)
end
end So

namespace So
open PySem PySem.Spec PyProof.Rows L2

/-! ### runs in which no repr is under way -/
/-- as FnOk, where no repr is under way at the call -/
structure FnG (P : Program) (w : World) (K : PySem.W.Frag) (mg : Str → Option Value) (base : Heap) (CX : CXT) (k : Nat) (f : Addr) (fd : FuncData) (ps : List Str) (sp : Sp) : Prop where
  lenG : ∀ (vs : List V) (H : Hp) (Q : VK) (E : XK), sp vs H Q E → vs.length = ps.length
  runG : ∀ (A : Around) (outer : List Env) (s : Shared) (H : Hp) (args : Args) (us : List Value) (vs : List V) (Q : VK) (E : XK), A.guards = some [] → Room k A → Env0 P w K mg base A outer s H →
    BindsTo s fd args (ps.zip us) → Vals vs us → sp vs H Q E → codeAny (model P w) A (.call (.ref f) args) (CR CX outer P w H s Q E) s
section
variable {P : Program} {w : World} {K : PySem.W.Frag} {mg : Str → Option Value} {base : Heap} {CX : CXT} {sp : Sp} {fd : FuncData} {ps N : List Str} {k : Nat} {f : Addr}
theorem FnG.ofOk (F : FnOk P w K mg base CX k f fd ps sp) : FnG P w K mg base CX k f fd ps sp :=
  ⟨F.len, fun A outer s H args us vs Q E _ => F.run A outer s H args us vs Q E⟩
/-- a def by its body, as the layer's rule, the guards told -/
theorem fnG_of {x qual : Str} {st : Stmt} (F : Fun K x qual st f fd) (S : FnScope N ps (defScope st)) (len : ∀ vs H Q E, sp vs H Q E → vs.length = ps.length)
    (hbody : ∀ (cdv : Value) (A : Around) (outer : List Env) (s : Shared) (H : Hp) (vs : List V) (Q : VK) (E : XK), A.guards = some [] → Room k (A.deeper (envOfC qual (defScope st) s.heap.objs.size f cdv)) → sp vs H Q E →
      ∃ t, PSs (cxOf CX P w K mg base N qual (defScope st) f cdv A outer s H E).nox (defBody st) t ∧ t { nx := fun _ H' => Q .non H', rt := Q } (start N vs) H) : FnG P w K mg base CX (k + 1) f fd ps sp := by
  obtain ⟨oc, od, kV, doc, pm, an, cdv, ct, osl, rfl, lk, hcd⟩ := F.ex
  constructor
  · exact len
  intro A outer s H args us vs Q E hg hr e0 hb r hsp
  have old : ∀ b o, base.get? b = some o → s.heap.get? b = some o := fun b o e => (e0.bs b o e).1
  have KX := e0.mod.kin.keeps old
  have lim := e0.mod.nolimit.keeps old
  refine codeAny_call_function hr.depth (KX _ _ lk) rfl S.co S.gen rfl (PySem.W.codeRec_of KX hcd) (hb _ _ _ _ ?_)
  refine wpAny_newFunctionEnv_cells S.kind (fun y hy => ?_) fun env he s1 x => ?_
  · rcases S.par y.1 (List.of_mem_zip (show (y.1, y.2) ∈ ps.zip us from hy)).1 with q | q
    · exact Or.inl q
    · exact Or.inr (And.intro q (PySem.W.cellsFrom_some _ _ _ (Or.inl q)))
  subst he
  refine And.intro (lim.keeps x.toInCall.keep) (codeAny_func ?_)
  obtain ⟨t, ht, hq⟩ := hbody cdv A outer s H vs Q E hg (hr.deeper _) hsp
  refine wpAny_mono (ht.nox.run [] s1 (start N vs) H _ (inv_start S hr.hd e0 (len _ _ _ _ hsp) r x) hq) (fun fl s' hs => ?_) fun _ _ hs => hs
  match fl, hs with
  | .ret u, ⟨v, σ', H', J, rv, q⟩ => exact ⟨v, H', J.os, J.bare, J.base, J.hok, rv, q⟩
  | .next, ⟨σ', H', J, q⟩ => exact ⟨V.non, H', J.os, J.bare, J.base, J.hok, rfl, q⟩
  | .brk, ⟨_, _, _, q⟩ => exact q.elim
  | .cont, ⟨_, _, _, q⟩ => exact q.elim
end

/-! ### calls -/
section
variable {X : Cx} {CX : CXT} {k : Nat} {f C : Addr} {fd : FuncData} {ps ks : List Str} {sp : Sp} {E : XK} {x m : Str} {p pos apos : Pos} {e o : Expr} {es : List Expr} {kws : List Keyword} {ta : TE} {t tk : TA} {dvs : List V} {ds : List Value}
theorem run_fnG {pins : List (Addr × Obj)} {σ : L2.St} {H : Hp} {s : Shared} {Q : VK} {us : List Value} {vs : List V} (F : FnG X.prog X.w X.K X.mg X.base CX k f fd ps sp) (hg : X.A.guards = some []) (hr : Room k X.A) (hb : Binds X.K fd ps ds) (hd : Vals dvs ds)
    (hx : Passes CX X E) (I : Inv X pins σ H s) (r : Vals vs us) (h : sp (vs ++ dvs) H Q E) : wpAny (model X.prog X.w) X.A (call (.ref f) us) (EP X pins σ Q) X.xe s := by
  have r2 := r.append hd
  have hl : (us ++ ds).length = ps.length := r2.length.symm.trans (F.lenG _ _ _ _ h)
  refine wpAny_call (codeAny_mono (F.runG X.A X.stack s H ⟨us, []⟩ (us ++ ds) (vs ++ dvs) Q E hg hr I.env0 (hb s us I.kIn hl) r2 h) fun r s' hq => ?_)
  match r, hq with
  | .error e, hq => exact hx pins σ H s e s' I hq
  | .ok (.ret u), hq => exact I.after hq
  | .ok .next, hq => exact hq.elim
  | .ok .brk, hq => exact hq.elim
  | .ok .cont, hq => exact hq.elim
/-- f(e, ..), f by FnG -/
theorem pe_callG (F : FnG X.prog X.w X.K X.mg X.base CX k f fd ps sp) (hg : X.A.guards = some []) (hr : Room k X.A) (hgl : Gl X x) (hm : X.mg x = some (.ref f)) (hk : PySem.W.keepIn X.K (.ref f) = true) (hb : Binds X.K fd ps ds) (hd : Vals dvs ds) (hx : Passes CX X E)
    (ha : PA X (e :: es) t) (hdb : (x == ("__debug__" : Str)) = false := by decide) (he : starEach (e :: es) X.env = (false, eval e X.env) :: starEach es X.env := by rfl) (hpl : (backTo pos (starEach es X.env)).any (·.1) = false := by rfl) :
    PE X (.Call (.Name x p) (e :: es) [] pos) (tCall sp dvs E t) := by
  constructor
  intro pins s σ H Q I h
  refine wpAny_Call_Name_kw (ld_glob I hgl hm (PySem.W.callWith_K (h₀ := X.base) I.ok.mod.kin hk (thn (ha.run pos pins s σ H _ I h) fun us s1 q => ?_) he hpl) hdb)
  obtain ⟨vs, H1, I1, r, q⟩ := q
  exact ⟨I1.kIn, run_fnG F hg hr hb hd hx I1 r q⟩
/-- o.m(k = v, ..): keywords alone -/
theorem pe_methK {g : List Value → List Value → List Value} {gV : List V → List V → List V} {pl : Sem Bool} (he : PE X o ta) (c : Cls X.K C) (hm : Meth X.K C m f) (F : FnOk X.prog X.w X.K X.mg X.base CX k f fd ps sp) (hr : Room k X.A) (hb : KBinds X.K fd ps ks g gV)
    (hx : Passes CX X E) (hkw : PK X kws tk) (hall : (backToKw pos (keywordEach kws X.env)).all (·.1.isSome) = true := by rfl) (hks : (backToKw pos (keywordEach kws X.env)).filterMap (·.1) = ks := by rfl)
    (hpl : ((backTo pos (starEach [] X.env)).any (·.1) || (backToKw pos (keywordEach kws X.env)).any (·.1.isNone)) = false := by rfl)
    (ht : eval (.Call (.Attribute o m apos) [] kws pos) X.env = (do
      let ov ← eval o X.env
      standAt apos.atName
      let fx ← holding [ov] (getMethod ov m pl)
      callWith pos fx.1 fx.2 (backTo pos (starEach [] X.env)) (backToKw pos (keywordEach kws X.env))) := by rfl) :
    PE X (.Call (.Attribute o m apos) [] kws pos) (fun σ H Q => ta σ H fun x H1 => ∃ a dx fs, x = .ref a ∧ H1 a = some (.ins C dx fs) ∧ fs.lookup m = none ∧ tk σ H1 fun zs H2 => sp (gV [x] zs) H2 Q E) := by
  constructor
  intro pins s σ H Q I h
  refine PySem.W.methodCall_KW (pl := pl) (thn (he.run pins s σ H _ I h) fun u s1 z => ?_) ht
  obtain ⟨x, H1, I1, rx, a, dx, fs, ex, ea, l, q⟩ := z
  subst ex
  cases rx
  refine getmeth_ok I1 ea c hm l ?_
  refine PySem.W.callWith_KW0 (first := [.ref a]) (h₀ := X.base) I.ok.mod.kin hm.kp hall (thn (hkw.run pos pins s1 σ H1 _ I1 q) fun ws s2 z => ?_) hpl
  obtain ⟨zs, H2, I2, rz, q2⟩ := z
  refine ⟨I2.kIn, ?_⟩
  rw [hks]
  exact run_fnk (us := [.ref a]) (vs := [.ref a]) F hr hb hx I2 (.cons rfl .nil) rz q2
end

/-! ### the end of a law -/
theorem law_callG {P : Program} {w : World} {K : PySem.W.Frag} {mg mb : Str → Option Value} {CX : CXT} {k : Nat} {fa a : Addr} {fd : FuncData} {x : Str} {sp : Sp} {s₁ : Shared} {vs : List Value} {ns : List Int}
    (KX : K.In s₁.heap) (hns : s₁.heap.Ns mainGlobals mg) (hb : s₁.heap.Ns builtinsNs mb) (hbb : ∀ x : Str, x ≠ "__name__" → mb x = bootBuiltins x) (hlim : s₁.heap.NoLimit) (hg : s₁.gens = #[])
    (ha : s₁.heap.get? a = some { cls := .type "list", data := .seq vs.toArray }) (hi : IntsAre vs ns) (hl : ns.length ≤ sizeLine) (hr : Room k callerA)
    (F : ∀ base : Heap, K.In base → base.Ns mainGlobals mg → FnG P w K mg base CX k fa fd [x] sp) (hbind : ∀ (s : Shared) (u : Value), BindsTo s fd ⟨[u], []⟩ [(x, u)])
    (hsp : ∀ H : Hp, Only H → SqL K H a (ns.map V.int) → sp [.ref a] H (fun v _ => v = .bl true) fun _ _ _ => False)
    (hCX : ∀ H e s', CX [] H s₁ (fun _ _ _ => False) e s' → False) :
    codeAny (model P w) callerA (.call (.ref fa) ⟨[.ref a], []⟩) (fun r s' => r = .ok (.ret (.bool true)) ∧ OldK s₁.heap s'.heap ∧ s'.os = s₁.os ∧ AllBare s'.gens) s₁ := by
  -- the call itself, for a heap in which the script alone may be tracked
  have go : ∀ H : Hp, Only H → SqL K H a (ns.map V.int) → HOk P w H s₁.heap → (∀ b u, H b = some u → b = a ∧ K.lookup a = none) →
      codeAny (model P w) callerA (.call (.ref fa) ⟨[.ref a], []⟩) (fun r s' => r = .ok (.ret (.bool true)) ∧ OldK s₁.heap s'.heap ∧ s'.os = s₁.os ∧ AllBare s'.gens) s₁ := by
    intro H hO hS hok hA
    have free : ∀ b : Addr, (b ≠ a ∨ K.lookup a ≠ none) → H b = none := by
      intro b z
      cases q : H b with
      | none => rfl
      | some u => exact (z.elim (fun z => z (hA b u q).1) fun z => z (hA b u q).2).elim
    have notSeq : ∀ {b : Addr} {m : Str → Option Value}, s₁.heap.Ns b m → b ≠ a := by
      rintro b m ⟨o, es, ep, e, d, _⟩ rfl
      rw [ha] at e
      cases e
      cases d
    have inH : ∀ {b : Addr} {m : Str → Option Value}, s₁.heap.Ns b m → (hidT s₁.heap H).Ns b m := by
      intro b m n
      have nb := free b (Or.inl (notSeq n))
      obtain ⟨o, es, ep, e, r⟩ := n
      exact ⟨o, es, ep, hidT_get e nb, r⟩
    have kin : K.In (hidT s₁.heap H) := by
      intro b o e
      refine hidT_get (KX b o e) ?_
      by_cases hb : b = a
      · exact free b (Or.inr (by rw [← hb, e]; exact fun z => nomatch z))
      · exact free b (Or.inl hb)
    have lim2 : (hidT s₁.heap H).NoLimit := by
      obtain ⟨mc, h1, h2⟩ := hlim
      exact ⟨mc, inH h1, h2⟩
    have e0 : Env0 P w K mg (hidT s₁.heap H) callerA [] s₁ H := by
      refine ⟨rfl, ⟨kin, inH hns, ⟨mb, inH hb, hbb⟩, lim2⟩, fun b o e => of_hidT e, Nat.le_of_eq (hidT_size _ _), True.intro, ?_, hok, .of_eq hg⟩
      intro b hb
      cases hb
    refine codeAny_mono ((F _ kin (inH hns)).runG callerA [] s₁ H ⟨[.ref a], []⟩ [.ref a] [.ref a] _ _ rfl hr e0 (hbind s₁ (.ref a)) (.cons rfl .nil) (hsp H hO hS)) fun r s' h => ?_
    match r, h with
    | .error e, h => exact (hCX H e s' h).elim
    | .ok .next, h => exact h.elim
    | .ok .brk, h => exact h.elim
    | .ok .cont, h => exact h.elim
    | .ok (.ret u), ⟨v, H', os, bare, un, hok', rv, q⟩ =>
      have q2 : v = .bl true := q
      subst q2
      cases rv
      refine ⟨rfl, OldK.of_keep (fun b o e => ?_), os, bare⟩
      rcases hO b with z | ⟨ob, xs, z⟩
      · exact un.keep b o e z (fun z => nomatch z) (fun z => nomatch z)
      · have z1 := (hok b _ z).1
        have z2 := (hok' b _ (un.frzs b ob _ z)).1
        rw [z1] at e
        rw [z2, e]
  have rv := vals_ints hi
  have hlen : (ns.map V.int).length ≤ sizeLine := by rw [List.length_map]; exact hl
  cases hk : K.lookup a with
  | some o =>
    have e := KX a o hk
    rw [ha] at e
    cases e
    exact go (fun _ => none) (fun _ => Or.inl rfl) (Or.inr ⟨_, vs.toArray, _, hk, rfl, rfl, rfl, by rw [List.size_toArray, hi.length]; exact hl, by simpa using rv⟩) (fun b u z => nomatch z) fun b u z => nomatch z
  | none =>
    have at_ : ∀ b u, (if b = a then some (HO.frz { cls := .type "list", data := .seq vs.toArray } (.lst (ns.map V.int))) else none) = some u → b = a ∧ u = .frz { cls := .type "list", data := .seq vs.toArray } (.lst (ns.map V.int)) := by
      intro b u z
      split at z
      · rename_i hb
        exact ⟨hb, (Option.some.inj z).symm⟩
      · cases z
    refine go (fun b => if b = a then some (.frz { cls := .type "list", data := .seq vs.toArray } (.lst (ns.map V.int))) else none) (fun b => ?_) (Or.inl (Or.inr ⟨_, if_pos rfl⟩)) (fun b u z => ?_) fun b u z => ⟨(at_ b u z).1, hk⟩
    · by_cases hb : b = a
      · exact Or.inr ⟨_, _, if_pos hb⟩
      · exact Or.inl (if_neg hb)
    · obtain ⟨rfl, rfl⟩ := at_ b u z
      exact ⟨ha, hlen, vs, _, rv, ha⟩

theorem walk_ofG {l : PySem.W.OpenLaw} {n k : Nat} {q : Program} {loose : List Str} {XP : (Str → Option Value) → Heap → Prop} {YP : World → Heap → Prop} {d : DefRec} {K : Params → PySem.W.Frag} {CX : World → CXT} {sp : World → Sp} {x : Str}
    (hn : l.most = some n) (hn2 : n ≤ sizeLine) (hdf : d.params.defaults = []) (hr : Room k callerA) (hY : ∀ (w : World) (h : Heap), YP w h → (K w.params).In h)
    (F : ∀ (w : World) (mg : Str → Option Value) (fa : Addr) (h : Heap), (K w.params).In h → h.Ns mainGlobals mg → mg d.name = some (.ref fa) →
      ∃ fd : FuncData, (∀ (s : Shared) (u : Value), BindsTo s fd ⟨[u], []⟩ [(x, u)]) ∧ ∀ base : Heap, (K w.params).In base → base.Ns mainGlobals mg → FnG l.prog w (K w.params) mg base (CX w) k fa fd [x] (sp w))
    (hsp : ∀ (w : World) (H : Hp) (a : Addr) (ns : List Int), ns.length ≤ n → (∀ z ∈ ns, Builtin.Int.intBits z ≤ 1048576) → Only H → SqL (K w.params) H a (ns.map V.int) → sp w [.ref a] H (fun v _ => v = .bl true) fun _ _ _ => False)
    (hCX : ∀ (w : World) (H : Hp) (s : Shared) (e : Value) (s' : Shared), CX w [] H s (fun _ _ _ => False) e s' → False) :
    PySem.W.WalkO q loose XP YP l.row.toRowW d [] (fun f vs => PySem.call f vs) := by
  apply Att.attach_callB hn hdf
  intro w s₀ s₁ mg mb fa o pm cd doc a vs ns G Y _ _ _ hmg hobj hints hlen hbits hg
  obtain ⟨fd, hb, hF⟩ := F w mg fa _ (hY w _ Y) G.T.g hmg
  exact law_callG (hY w _ Y) G.T.g G.T.b G.T.builtins G.T.nolimit hg hobj hints (Nat.le_trans hlen hn2) hr hF hb (fun H hO hS => hsp w H a ns hlen hbits hO hS) fun H e s' => hCX w H s₁ e s'
end So

namespace So
open PySem PySem.Spec PyProof.Rows L2
section
variable {K : PySem.W.Frag} {C : Addr}
theorem kit_self : PySem.W.kitOne K (.ref C) (.ref C) = some true := by
  unfold PySem.W.kitOne
  rw [if_pos]
  simp
/-- no built-in type stands below an own class -/
theorem sub_ty {T : String} (h : (fastBuiltinMro T).map (fun l => l.all fun v => match v with | .type _ => true | _ => false) = some true) : PySem.W.subIn K (.type T) (.ref C) = some false := by
  show (fastBuiltinMro T).map (·.contains (.ref C)) = some false
  cases e : fastBuiltinMro T with
  | none => rw [e] at h; cases h
  | some l =>
    rw [e] at h
    have h2 : (l.all fun v => match v with | .type _ => true | _ => false) = true := Option.some.inj h
    show some (l.contains (.ref C)) = some false
    congr 1
    cases c : l.contains (.ref C) with
    | false => rfl
    | true =>
      have m : (Value.ref C) ∈ l := by simpa using c
      have := List.all_eq_true.mp h2 _ m
      cases this
theorem notFirst_ty {T : String} (h : (fastBuiltinMro T).map (fun l => l.all fun v => match v with | .type _ => true | _ => false) = some true) : PySem.W.notFirst K C (.type T) = true := by
  unfold PySem.W.notFirst
  rw [sub_ty h]
  simp
theorem kit_no {T : String} (hc : PySem.W.isClsIn K C = true) (ht : PySem.W.typeIn K (.ref C) = some (.type "type")) (h : (fastBuiltinMro T).map (fun l => l.all fun v => match v with | .type _ => true | _ => false) = some true) : PySem.W.kitOne K (.type T) (.ref C) = some false := by
  unfold PySem.W.kitOne PySem.W.kitCls
  unfold PySem.W.isClsIn at hc
  have hb : ((PySem.W.clsIn K C).isSome && PySem.W.typeIn K (.ref C) == some (.type "type")) = true := by
    rw [hc, ht]
    simp
  have sb := sub_ty (K := K) (C := C) h
  simp [hb, sb]
end
end So

/-! So, on: exceptions that are kept as values. -/
namespace So
open PySem PySem.Spec PyProof.Rows L2
/-- an exception object of the class cls, its dict at d, that stands at a and is nobody's news -/
def Xo (cls : Value) (d : Option Addr) (a : Addr) : HO := .ext fun h => ∃ (oe : Obj) (vs : Array Value), h.get? a = some oe ∧ Zc cls d oe ∧ oe.data = .fields vs
theorem xo_ok {P : Program} {w : World} {H : Hp} {h : Heap} {a : Addr} {cls : Value} {d : Option Addr} {oe : Obj} {vs : Array Value} (e : h.get? a = some oe) (z : Zc cls d oe) (f : oe.data = .fields vs) : ObjOk P w H h a (Xo cls d a) := by
  refine ⟨⟨oe, vs, e, z, f⟩, ⟨oe, e⟩, ?_⟩
  rintro h1 h2 ⟨o, v, q, r⟩ k
  exact ⟨o, v, k o q, r⟩
theorem xo_at {P : Program} {w : World} {H : Hp} {h : Heap} {a : Addr} {cls : Value} {d : Option Addr} (hok : HOk P w H h) (e : H a = some (Xo cls d a)) : ∃ (oe : Obj) (vs : Array Value), h.get? a = some oe ∧ Zc cls d oe ∧ oe.data = .fields vs := by
  have x : ObjOk P w H h a (.ext fun h => ∃ (oe : Obj) (vs : Array Value), h.get? a = some oe ∧ Zc cls d oe ∧ oe.data = .fields vs) := hok a _ e
  exact x.1
section
variable {X : Cx} {pins : List (Addr × Obj)} {σ : L2.St} {H : Hp} {s sI : Shared} {a : Addr} {cls : Value} {d : Option Addr} {oe : Obj} {vs : Array Value}
/-- an exception that has landed is tracked from now on -/
theorem track (J : Inv X pins σ H sI) (hex : X.ex = []) (hI : sI.heap.get? a = none) (I : Inv X pins σ H s) (he : s.heap.get? a = some oe) (hz : Zc cls d oe) (hd : oe.data = .fields vs) (na : H a = none) (nL : a ≠ X.env.locals) :
    Inv X pins σ (upd H a (Xo cls d a)) s := by
  have h0 : ∀ b o, X.s_0.heap.get? b = some o → b ≠ a := by
    rintro b o e rfl
    obtain ⟨o', e'⟩ := J.base.there b o e (by rw [hex]; exact fun z => nomatch z)
    rw [hI] at e'
    cases e'
  have hs : ∀ {b : Addr} {u : HO}, H b = some u → (upd H a (Xo cls d a)) b = some u := fun e => (upd_ne (ne_of_none e na)).trans e
  refine ⟨I.ok, I.os, I.bare, ⟨I.base.keep, I.base.slot, fun b o e n hx => (upd_ne (h0 b o e)).trans (I.base.free b o e n hx), I.base.there, fun b xs q => hs (I.base.tups b xs q), fun b o u q => hs (I.base.frzs b o u q), fun b ps q => ?_⟩,
    I.loc, I.cell, (upd_ne nL.symm).trans I.free, fun x c e => ?_, fun p hp => ?_, fun b u e => ?_, I.len⟩
  · obtain ⟨m, q'⟩ := I.base.tbls b ps q
    exact ⟨m, hs q'⟩
  · refine (upd_ne ?_).trans (I.freeC x c e)
    rintro rfl
    obtain ⟨v, o, ho, hc⟩ := I.cell x c e
    rw [he] at ho
    cases ho
    rw [hd] at hc
    cases hc
  · obtain ⟨p1, p2, p3, p4, p5⟩ := I.pin p hp
    refine ⟨p1, (upd_ne ?_).trans p2, p3, p4, p5⟩
    intro z
    have := (J.pin p hp).1
    rw [z, hI] at this
    cases this
  · by_cases hb : b = a
    · subst hb
      rw [upd_same] at e
      cases e
      exact xo_ok he hz hd
    · rw [upd_ne hb] at e
      exact (I.hok b u e).stay (fun _ _ _ q => q) (fun c q => hs q) fun c xs q => hs q
end

/-! ### try: body, except x as n: suite, the exception kept as a value -/
/-- what such a clause wishes of an exception of the body -/
def wKeep (K : PySem.W.Frag) (c : Value) (i : Nat) (ts : TS) (Wout : WX) (D : Ends) : WX := fun cls d σ H =>
  ∃ b, PySem.W.exmOne K cls c = some b ∧ (b = true → ∀ a, H a = none → ts { nx := fun σ' H' => D.nx (σ'.set i none) H', rt := D.rt, bk := fun σ' H' => D.bk (σ'.set i none) H', ct := fun σ' H' => D.ct (σ'.set i none) H' } (σ.set i (some (.ref a))) (upd H a (Xo cls d a))) ∧
    (b = false → Wout cls d σ H)
section
variable {X : Cx} {x n : Str} {c : Value} {i : Nat} {body suite : List Stmt} {b₀ : Stmt} {np pos pos' : Pos} {tb : WX → TS} {ts : TS} {Wout : WX}
theorem ps_try_keep (hs : X.stack = X.env :: X.outer) (hf : X.env.frame = some X.env.locals) (hex : X.ex = []) (hN : X.N.Nodup) (hi : X.N[i]? = some n) (hln : X.env.kindOf n = some .local) (hc : Names X x c) (tk : Takes X Wout)
    (hb : ∀ (W : WX) (pn : List (Addr × Obj)) (xe : Value → Shared → Prop), Takes (X.tr pn xe) W → PassesOwn (model X.prog X.w) X.A X.env xe → PSs (X.tr pn xe) body (tb W))
    (hsu : ∀ (a : Addr) (pn : List (Addr × Obj)), PSs (X.suite a pn) (b₀ :: suite) ts) :
    PS X (.Try body [.ExceptHandler (some (.Name x np)) (some n) (b₀ :: suite) pos'] [] [] pos) (fun D σ H => tb (wKeep X.K c i ts Wout D) D σ H) := by
  constructor
  intro pins s σ H D I h
  have ok := I.ok
  have hfr : X.A.frames = some (X.env :: X.outer) := ok.frames.trans (congrArg some hs)
  refine wpAny_Try_except (wpAny_mono ((hb (wKeep X.K c i ts Wout D) (X.pn ++ pins) (fun e s₁ => wpAny (model X.prog X.w) X.A (noteFrame e X.env) (fun _ s₂ => wpAny (model X.prog X.w) X.A (setFlight e none) (fun _ s₃ =>
    wpAny (model X.prog X.w) X.A (handleBy e X.env [.ExceptHandler (some (.Name x np)) (some n) (b₀ :: suite) pos']) (SP X pins D) X.xe s₃) X.xe s₂) X.xe s₁) (fun u s' xx => ?_) PassesOwn.looking).run [] s σ H D (I.toTry _) h) (fun f s1 hsp => ?_) fun e s1 he => he)
  · obtain ⟨a, B, sI, pins', σ', H', cls, d, rfl, J', nb, up, sky, na, os, ag, b, hb1, hyes, hno⟩ := xx
    have J : Inv X pins σ' H' sI := J'.ofTry ok
    have sky' : Sky B (X.env :: X.outer) a (Zc cls d) X.env.locals s'.heap := hs ▸ sky
    refine Sky.land Zc.steady hfr hf sky' fun h3 fl3 up3 => ?_
    have J3 : Inv X pins σ' H' { s' with heap := h3 } := J.landed nb fl3.1 (up.trans up3) os ag
    obtain ⟨oe3, vs3, he3, hz3, hd3⟩ := fl3.there
    have nfr : a ∉ frs (X.env :: X.outer) := fun hm => by
      obtain ⟨_, o', e', hnf⟩ := fl3.2.2.1.mem hm
      rw [he3] at e'
      cases e'
      exact hnf _ hd3
    have nL : a ≠ X.env.locals := fun z => nfr (by
      refine List.mem_filterMap.mpr ⟨X.env, List.mem_cons_self, ?_⟩
      rw [hf, z])
    have hBa : B.get? a = none := fl3.2.1
    have hIa : sI.heap.get? a = none := by
      cases e : sI.heap.get? a with
      | none => rfl
      | some o =>
        have := nb a o e (by rw [hs]; exact nfr)
        rw [hBa] at this
        cases this
    refine wpAny_handleBy_cons (codeAny_handlers_test ?_) (by intro q; cases q)
    have LT : PySem.W.Looks (model X.prog X.w) h3 (typeOf (.ref a)) cls := by
      intro A Q E s k q
      refine wpAny_typeOf_ref (k _ _ he3) ?_
      rw [hz3.1]
      exact q
    have LM := PySem.W.exm_one (M := model X.prog X.w) (J3.kIn) LT hb1
    have S0 : ∀ {h4 : Heap}, Inv X pins σ' H' { s' with heap := h4 } → ∀ {o : Obj} {v : Array Value}, h4.get? a = some o → Zc cls d o → o.data = .fields v → Inv (X.suite a (X.pn ++ pins)) [] σ' (upd H' a (Xo cls d a)) { s' with heap := h4 } := by
      intro h4 J4 o v e z dt
      have T := track J hex hIa J4 e z dt na nL
      exact ⟨T.ok.suite _ _, T.os, T.bare, T.base, T.loc, T.cell, T.free, T.freeC, fun p hp => T.pin p (by rwa [List.append_nil] at hp), T.hok, T.len⟩
    have S3 := S0 J3 he3 hz3 hd3
    have test : ∀ {Q : Value → Shared → Prop} {E : Value → Shared → Prop}, Q c { s' with heap := h3 } → wpAny (model X.prog X.w) (X.A.mark (some (.ref a))) (eval (.Name x np) X.env) Q E { s' with heap := h3 } := by
      intro Q E q
      rcases hc with ⟨hg, hdbg, hm | ⟨hm, hv, hnn⟩⟩
      · exact ld_glob (X := X.suite a (X.pn ++ pins)) S3 hg hm q hdbg
      · exact ld_blt (X := X.suite a (X.pn ++ pins)) S3 hg hm hv q hnn hdbg
    refine test (LM.here ?_)
    cases b with
    | true =>
      refine codeAny_handlers_suite_as (HandSPX.lands_againZ fl3 fun h4 fl4 up4 => ?_)
      have J4 : Inv X pins σ' H' { s' with heap := h4 } := J.landed nb fl4.1 ((up.trans up3).trans up4) os ag
      obtain ⟨oe4, vs4, he4, hz4, hd4⟩ := fl4.there
      have S4 := S0 J4 he4 hz4 hd4
      refine store_ok (X := X.suite a (X.pn ++ pins)) (v := .ref a) S4 hN hi (.inl hln) rfl (fun s5 S5 => ?_) (.inr hln)
      refine wpAny_mono ((hsu a (X.pn ++ pins)).run [] s5 _ _ _ S5 (hyes rfl a na)) (fun f s6 hsp => ?_) (fun _ _ z => z.elim)
      have out : ∀ {σ6 : L2.St} {H6 : Hp}, Inv (X.suite a (X.pn ++ pins)) [] σ6 H6 s6 → Inv X pins σ6 H6 s6 := fun S6 =>
        ⟨ok, S6.os, S6.bare, S6.base, S6.loc, S6.cell, S6.free, S6.freeC, fun p hp => S6.pin p (List.mem_append_left _ hp), S6.hok, S6.len⟩
      match f, hsp with
      | .next, ⟨σ6, H6, S6, q6⟩ => exact gone_ok (out S6) hN hi hln fun s7 J7 => ⟨_, _, J7, q6⟩
      | .brk, ⟨σ6, H6, S6, q6⟩ => exact gone_ok (out S6) hN hi hln fun s7 J7 => ⟨_, _, J7, q6⟩
      | .cont, ⟨σ6, H6, S6, q6⟩ => exact gone_ok (out S6) hN hi hln fun s7 J7 => ⟨_, _, J7, q6⟩
      | .ret u, ⟨v6, σ6, H6, S6, r6, q6⟩ => exact gone_ok (out S6) hN hi hln fun s7 J7 => ⟨_, _, _, J7, r6, q6⟩
    | false =>
      refine wpAny_handleBy_nil ?_
      obtain ⟨_, _, _, oe, vs, T, _, _, he, _, hd, h1, _⟩ := id fl3
      unfold PySem.passOn
      refine wpAny_bind (wpAny_field he hd h1 ?_)
      have nn : ¬ ((Value.ref T == Value.none) = true) := by simp
      rw [if_neg nn]
      have fin : wpAny (model X.prog X.w) X.A (setFlight (.ref a) X.env.frame) (fun _ s4 => wpAny (model X.prog X.w) X.A (throw (.ref a) : Sem Flow) (SP X pins D) X.xe s4) X.xe { s' with heap := h3 } := by
        rw [hf]
        refine HandSPX.setFlight_upZ fl3 fun h4 hh4 up4 => wpAny_throw (tk _ _ ⟨a, B, sI, pins, σ', H', cls, d, rfl, J, nb, (up.trans up3).trans up4, ?_, na, os, ag, hno rfl⟩)
        exact Or.inr (Or.inr (hs ▸ hh4))
      first
        | exact wpAny_bind (wpAny_pure (wpAny_bind fin))
        | exact wpAny_bind fin
  · match f, hsp with
    | .next, ⟨σ', H', J', q⟩ => exact wpAny_execs_nil ⟨σ', H', J'.ofTry ok, q⟩
    | .brk, ⟨σ', H', J', q⟩ => exact ⟨σ', H', J'.ofTry ok, q⟩
    | .cont, ⟨σ', H', J', q⟩ => exact ⟨σ', H', J'.ofTry ok, q⟩
    | .ret u, ⟨v, σ', H', J', r, q⟩ => exact ⟨v, σ', H', J'.ofTry ok, r, q⟩
end
end So

namespace So
open PySem PySem.Spec PyProof.Rows L2
/-- what an error class of the program's own says of its instances -/
structure Err (K : PySem.W.Frag) (C : Addr) : Prop where
  ga : PySem.W.findIn K (.ref C) "__getattribute__" = some (some (.builtin "BaseException.__getattribute__"))
  gg : PySem.W.findIn K (.ref C) "__getattr__" = some none
  exC : PySem.W.subIn K (.ref C) (.type "BaseException") = some true
  hdC : PySem.W.hasDictIn K C = true
  ca : PySem.W.findIn K (.ref C) "__class__" = some (some (.builtin "object.__class__"))
  cn : PySem.W.specialIn K (.builtin "object.__class__") "__get__" = some (some (.builtin "getset_descriptor.__get__"))
  ct : PySem.W.takesIn K (.builtin "object.__class__") = some true
  cm : PySem.W.mroIn K C (.type "object") = some true
section
variable {X : Cx}
/-- e.n, e an exception that is kept -/
theorem pe_xo {C : Addr} {e : Expr} {te : TE} {pos : Pos} {n : Str} (T : Err X.K C) (hno : PySem.W.findIn X.K (.ref C) n = some none) (he : PE X e te) (hb : attributeBase e n X.env (eval e X.env) = eval e X.env := by rfl) :
    PE X (.Attribute e n pos) (fun σ H Q => te σ H fun x H1 => ∃ (a dd : Addr) (fs : List (Str × V)) (v : V), x = .ref a ∧ H1 a = some (Xo (.ref C) (some dd) a) ∧ H1 dd = some (.xd fs) ∧ fs.lookup n = some v ∧ Q v H1) := by
  constructor
  intro pins s σ H Q I h
  refine attr_of hb (thn (he.run pins s σ H _ I h) fun u s1 hh => ?_)
  obtain ⟨x, H1, I1, rx, a, dd, fs, v, rfl, ha, ea, l, q⟩ := hh
  cases rx
  obtain ⟨oe, vs, hg, hz, hd⟩ := xo_at I1.hok ha
  obtain ⟨mA, hns, hr⟩ := (show ObjOk X.prog X.w H1 s1.heap dd (.xd fs) from I1.hok dd _ ea)
  obtain ⟨od, ho, hl⟩ := lookIn_ns hns
  have hrn := hr n
  rw [l] at hrn
  obtain ⟨u, hu, ru⟩ := RelO.some_of hrn
  have nc : PySem.W.notCls oe = true := by
    unfold PySem.W.notCls
    rw [hd]
  have J : PySem.W.InstAt s1.heap a oe C (some od) := by
    refine ⟨hg, hz.1, nc, ?_⟩
    rw [hz.2]
    exact ho
  have fo := PySem.W.findObj_own (K := X.K) (C := C) (od := od) (name := n) (v := u) T.hdC hno rfl (by rw [hl, hu])
  exact HandSPX.exc_get I1.kIn J T.ga T.gg T.exC fo (handed_of ru) ⟨v, H1, I1.tok _, ru, q⟩
end
/-! ### isinstance of a kept exception -/
section
open PySem.W PySem.Calls
variable {prog : Program} {w : World} {A : Around} {E : Value → Shared → Prop} {K : Frag} {x D : Addr} {ox : Obj} {od : Option Obj}
theorem err_class {Q : Option Value → Shared → Prop} (T : Err K D) (hp : Heap) (g : Array GenState) (dr : Drawn) (t : Nat) (os : OsState) (X : K.In hp) (I : InstAt hp x ox D od)
    (h : Q (some (.ref D)) ⟨hp, g, dr, t + 1, os⟩) : wpAny (model prog w) A (getAttr? (.ref x) "__class__") Q E ⟨hp, g, dr, t, os⟩ := by
  have isc : (clsIn K D).isSome = true := by
    obtain ⟨cd, hc, _⟩ := any_some T.hdC
    rw [hc]
    rfl
  have hf : findObj K D od "__class__" = some (.bind (.builtin "getset_descriptor.__get__") (.builtin "object.__class__")) := by
    cases od with
    | none => exact findObj_dataN isc T.ca T.cn T.ct
    | some o => exact findObj_data isc T.ca T.cn T.ct
  have k0 := I.type (M := model prog w)
  have k1 := looks_findIn (M := model prog w) X T.ga
  have k2 := looks_findIn (M := model prog w) X T.gg
  have k3 := looks_find (M := model prog w) X I hf
  have below : Looks (model prog w) hp (isInstance (.ref x) (.type "BaseException")) true := k0.andThen (looks_subIn X T.exC)
  have ne : (Value.builtin "BaseException.__getattribute__" == Value.builtin "object.__getattribute__") = false := by decide +kernel
  have both : (onTheHeap (Value.ref D) && Value.builtin "BaseException.__getattribute__" == Value.builtin "object.__getattribute__") = false := by
    rw [ne]
    exact Bool.and_false _
  have own : onTheHeap (Value.ref D) = true := rfl
  have noheap : (false && onTheHeap (Value.builtin "BaseException.__getattribute__")) = false := rfl
  unfold getAttr? getAttrBy? getAttrBy
  apply wpAny_bind
  apply wpAny_mkText
  apply wpAny_bind
  apply wpAny_attempt
  apply wpAny_holding
  apply wpAny_bind
  apply k0.at
  apply wpAny_bind
  apply k1.at
  show wpAny _ _ (ite ((onTheHeap (Value.ref D) && Value.builtin "BaseException.__getattribute__" == Value.builtin "object.__getattribute__") = true) _ _) _ _ _
  rw [both, if_neg (by decide)]
  unfold getAttrByItsOwn hookBefore
  apply wpAny_bind
  rw [if_pos own]
  apply k2.at
  apply wpAny_bind
  apply wpAny_attempt
  apply wpAny_holding
  unfold callGetattribute
  rw [noheap, if_neg (by decide)]
  unfold boundAndCalled
  rw [F.excAttr_ValueError.ga.bind (.ref x)]
  apply wpAny_bind
  apply wpAny_pure
  show wpAny _ _ (call (.builtin "BaseException.__getattribute__") [.ref x, .str "__class__" t]) _ _ _
  apply wpAny_call
  refine codeAny_call_builtin F.excAttr_ValueError.ga.plain F.entry_bexc_ga (@check_slot (model prog w) _ _ ⟨hp, g, dr, t + 1, os⟩ "BaseException.__getattribute__" "BaseException" "__getattribute__" (.ref x) [.str "__class__" t] [] _ (by decide +kernel) (by decide +kernel) below (F.args_bexc_ga (.ref x) (.str "__class__" t)) ?_)
  unfold Builtin.«object.__getattribute__»
  apply wpAny_bind
  refine wpAny_of_eq (a := ((Value.ref x : Value), [Value.str "__class__" t])) (by first | rfl | (simp only [slotArgs]; rfl)) ?_
  apply wpAny_bind
  apply wpAny_pure
  apply wpAny_bind
  apply k0.at
  apply wpAny_bind
  apply k3.at
  show wpAny _ _ (holding [Value.builtin "object.__class__"] (call (.builtin "getset_descriptor.__get__") [.builtin "object.__class__", .ref x, .ref D]) >>= ret) _ _ _
  apply wpAny_bind
  apply wpAny_holding
  apply wpAny_call
  refine class_get (s := ⟨hp, g, dr, t + 1, os⟩) (ox := ox) (od := od) X I T.cm (wpAny_pure ?_)
  show wpAny _ _ (handedOut (.ref D)) _ _ _
  rw [handedOut_of (v := .ref D) rfl]
  first
    | exact wpAny_pure (wpAny_pure h)
    | exact wpAny_pure h
    | exact wpAny_pure (wpAny_bind (wpAny_pure (wpAny_pure h)))
theorem kitx_err (T : Err K D) : KitX K (.ref x) (.ref D) (fun h => ∃ ox od, InstAt h x ox D od) where
  ty := fun _ _ _ ⟨_, _, I⟩ => I.type
  it := fun _ _ X _ => by
    obtain ⟨cd, hc, _⟩ := any_some T.hdC
    unfold clsIn at hc
    split at hc
    · rename_i ho
      intro A' Q' E' s' k q
      unfold isType loadHead
      exact wpAny_bind (wpAny_loadPart (k _ _ (X _ _ ho)) (wpAny_pure q))
    · cases hc
  ne := fun h tp dd its n sl X htp => by
    cases q : (Value.ref D == Value.ref tp) with
    | false => rfl
    | true =>
      have e : D = tp := Value.ref.inj (beq_iff_eq.mp q)
      subst e
      obtain ⟨cd, hc, _⟩ := any_some T.hdC
      unfold clsIn at hc
      split at hc
      · rename_i ho
        have z := (X _ _ ho).symm.trans htp
        cases z
      · cases hc
  ca := fun {prog w A E Q s} X I k => by
    obtain ⟨ox, od, I⟩ := I
    obtain ⟨hp, g, dr, t, os⟩ := s
    exact err_class T hp g dr t os X I k
end
section
variable {X : Cx}
/-- isinstance(e, c), e a kept exception, c one class -/
theorem call_isXo : CallR X (.builtin "isinstance") (fun xs H Q => ∃ (a D dd : Addr) (fs : List (Str × V)) (c : V) (u : Value) (b : Bool), xs = [.ref a, c] ∧ H a = some (Xo (.ref D) (some dd) a) ∧ H dd = some (.xd fs) ∧ Err X.K D ∧ ClsV c u ∧ PySem.W.kitOne X.K (.ref D) u = some b ∧ Q (.bl b) H) := by
  intro pins s σ H xs us Q I r h
  obtain ⟨a, D, dd, fs, c, u, b, rfl, ha, hd, T, cv, e, q⟩ := h
  obtain ⟨u1, u2, rfl, r1, r2⟩ := vals2 r
  cases r1
  have e2 := cv.eq r2
  subst e2
  obtain ⟨oe, vs, hg, hz, hdat⟩ := xo_at I.hok ha
  obtain ⟨mA, hns, _⟩ := (show ObjOk X.prog X.w H s.heap dd (.xd fs) from I.hok dd _ hd)
  obtain ⟨od, ho, _⟩ := lookIn_ns hns
  have nc : PySem.W.notCls oe = true := by
    unfold PySem.W.notCls
    rw [hdat]
  have J : PySem.W.InstAt s.heap a oe D (some od) := by
    refine ⟨hg, hz.1, nc, ?_⟩
    rw [hz.2]
    exact ho
  exact PySem.W.kia_one (kitx_err T) I.kIn ⟨oe, some od, J⟩ e (fun z => nomatch z) fun tk => ⟨.bl b, H, I.tok tk, rfl, q⟩
end
end So

namespace So
open PySem PySem.Spec PyProof.Rows L2
/-- C.m is a static method: its record at p, its def at g -/
structure Sta (K : PySem.W.Frag) (C : Addr) (mc : Value) (m : Str) (p g : Addr) : Prop where
  rd : PySem.W.readsIn K C mc = true
  ga : PySem.W.specialIn K (.ref C) "__getattribute__" = some (some (.builtin "type.__getattribute__"))
  at_ : PySem.W.findCls K (.ref C) mc m = some (.get (.builtin "staticmethod.__get__") (.ref p) .none (.ref C))
  rc : ∃ rest, PySem.W.recIn K p "staticmethod" = some (.ref g :: rest)
  kp : PySem.W.keepIn K (.ref g) = true
section
variable {X : Cx} {CX : CXT} {k : Nat} {C f p0 : Addr} {mc : Value} {fd : FuncData} {ps ks : List Str} {sp : Sp} {E : XK} {m : Str} {pos apos : Pos} {e o : Expr} {es : List Expr} {kws : List Keyword} {ta : TE} {t tk : TA}
theorem getsta_ok {pins : List (Addr × Obj)} {σ : L2.St} {H : Hp} {s : Shared} {pl : Sem Bool} {A : Around} {E' : Value → Shared → Prop} {Q : Value × List Value → Shared → Prop} (I : Inv X pins σ H s) (S : Sta X.K C mc m p0 f) (h : ∀ s', Inv X pins σ H s' → Q (.ref f, []) s') :
    wpAny (model X.prog X.w) A (getMethod (.ref C) m pl) Q E' s := by
  obtain ⟨rest, hp⟩ := S.rc
  refine PySem.W.method_cls I.kIn S.ga (PySem.W.cls_bind I.kIn S.rd S.at_ (wpAny_call (PySem.W.sm_get (s := { s with toks := s.toks + 1 }) I.kIn hp (PySem.W.handed_on rfl ?_))))
  exact h _ (I.tok _)
/-- C.m(e, ..), m static -/
theorem pe_sta {pl : Sem Bool} (he : PE X o ta) (S : Sta X.K C mc m p0 f) (F : FnOk X.prog X.w X.K X.mg X.base CX k f fd ps sp) (hr : Room k X.A) (hb : Binds X.K fd ps []) (hx : Passes CX X E) (ha : PA X (e :: es) t)
    (hst : starEach (e :: es) X.env = (false, eval e X.env) :: starEach es X.env := by rfl) (hpl : (backTo pos (starEach es X.env)).any (·.1) = false := by rfl)
    (ht : eval (.Call (.Attribute o m apos) (e :: es) [] pos) X.env = (do
      let ov ← eval o X.env
      standAt apos.atName
      let fx ← holding [ov] (getMethod ov m pl)
      callWith pos fx.1 fx.2 (backTo pos (starEach (e :: es) X.env)) (backToKw pos (keywordEach [] X.env))) := by rfl) :
    PE X (.Call (.Attribute o m apos) (e :: es) [] pos) (fun σ H Q => ta σ H fun x H1 => x = .ref C ∧ t σ H1 fun vs H2 => sp vs H2 Q E) := by
  constructor
  intro pins s σ H Q I h
  refine PySem.W.methodCall_KW (pl := pl) (thn (he.run pins s σ H _ I h) fun u s1 z => ?_) ht
  obtain ⟨x, H1, I1, rx, rfl, q⟩ := z
  cases rx
  refine getsta_ok I1 S fun s2 I2 => PySem.W.callWith_K (first := []) (h₀ := X.base) I2.ok.mod.kin S.kp (thn (ha.run pos pins s2 σ H1 _ I2 q) fun us s3 z => ?_) hst hpl
  obtain ⟨vs, H2, I3, r, q2⟩ := z
  refine ⟨I3.kIn, ?_⟩
  have q3 : sp (vs ++ []) H2 Q E := by
    rw [List.append_nil]
    exact q2
  exact run_fn F hr hb .nil hx I3 r q3
/-- C.m(k = v, ..), m static, keywords alone -/
theorem pe_staK {g : List Value → List Value → List Value} {gV : List V → List V → List V} {pl : Sem Bool} (he : PE X o ta) (S : Sta X.K C mc m p0 f) (F : FnOk X.prog X.w X.K X.mg X.base CX k f fd ps sp) (hr : Room k X.A) (hb : KBinds X.K fd ps ks g gV) (hx : Passes CX X E)
    (hkw : PK X kws tk) (hall : (backToKw pos (keywordEach kws X.env)).all (·.1.isSome) = true := by rfl) (hks : (backToKw pos (keywordEach kws X.env)).filterMap (·.1) = ks := by rfl)
    (hpl : ((backTo pos (starEach [] X.env)).any (·.1) || (backToKw pos (keywordEach kws X.env)).any (·.1.isNone)) = false := by rfl)
    (ht : eval (.Call (.Attribute o m apos) [] kws pos) X.env = (do
      let ov ← eval o X.env
      standAt apos.atName
      let fx ← holding [ov] (getMethod ov m pl)
      callWith pos fx.1 fx.2 (backTo pos (starEach [] X.env)) (backToKw pos (keywordEach kws X.env))) := by rfl) :
    PE X (.Call (.Attribute o m apos) [] kws pos) (fun σ H Q => ta σ H fun x H1 => x = .ref C ∧ tk σ H1 fun zs H2 => sp (gV [] zs) H2 Q E) := by
  constructor
  intro pins s σ H Q I h
  refine PySem.W.methodCall_KW (pl := pl) (thn (he.run pins s σ H _ I h) fun u s1 z => ?_) ht
  obtain ⟨x, H1, I1, rx, rfl, q⟩ := z
  cases rx
  refine getsta_ok I1 S fun s2 I2 => PySem.W.callWith_KW0 (first := []) (h₀ := X.base) I2.ok.mod.kin S.kp hall (thn (hkw.run pos pins s2 σ H1 _ I2 q) fun ws s3 z => ?_) hpl
  obtain ⟨zs, H2, I3, rz, q2⟩ := z
  refine ⟨I3.kIn, ?_⟩
  rw [hks]
  exact run_fnk (us := []) (vs := []) F hr hb hx I3 .nil rz q2
/-- ~o by an own __invert__ -/
theorem un_invOwn (F : FnOk X.prog X.w X.K X.mg X.base CX k f fd ps sp) (hs : PySem.W.findIn X.K (.ref C) "__invert__" = some (some (.ref f))) (hf : PySem.W.isFn X.K (.ref f) = true) (hb : Binds X.K fd ps []) (hx : Passes CX X E) (hr : Room k X.A) :
    UnR X (unaryOp .Invert) (fun x H Q => ∃ a dx fs, x = .ref a ∧ H a = some (.ins C dx fs) ∧ sp [.ref a] H Q E) := by
  intro pins s σ H x v Q I rx h
  obtain ⟨a, dx, fs, rfl, ha, q⟩ := h
  cases rx
  obtain ⟨mA, J, _⟩ := ins_get I.hok ha
  obtain ⟨od, J, _⟩ := J.look
  obtain ⟨m, hF⟩ := I.fr
  refine PySem.W.ksp_inv hF I.ok.mod.kin J hs hf ?_
  exact run_fn (us := [.ref a]) (vs := [.ref a]) F hr hb .nil hx I (.cons rfl .nil) q
end
end So

namespace So
open PySem PySem.Spec PyProof.Rows L2
/-! ### own errors with one field -/
/-- the __init__ of such an error: the field is what was passed -/
def spOneE (C : Addr) (n : Str) : Sp := fun vs H Q _ => ∃ (a : Addr) (v : V), vs = [.ref a, v] ∧ H a = some (exo a C none) ∧ ∀ dx, H dx = none → dx ≠ a → Q .non (upd (upd H dx (exd dx [(n, v)])) a (exo a C (some dx)))
/-- what the top says of such an error: its class at C, named x, its field n, its __init__ at f -/
structure OneE (K : PySem.W.Frag) (mg : Str → Option Value) (x n : Str) (C f : Addr) (fd : FuncData) : Prop where
  T : OexC K C
  iC : PySem.W.findIn K (.ref C) "__init__" = some (some (.ref f))
  tI : PySem.W.typeIn K (.ref f) = some (.type "function")
  mgC : mg x = some (.ref C)
  no : PySem.W.findIn K (.ref C) n = some none
  err : Err K C
  hb : Binds K fd ["self", n] []
/-- behind C(v) -/
theorem mkOne {C : Addr} {n : Str} {vs : List V} {v : V} {H1 : Hp} {Q : XK} (e : vs = [v]) (h : ∀ d H', Same H1 H' → H1 d = none → H' d = some (.xd [(n, v)]) → Q (.ref C) (some d) H') :
    vs.length ≤ 1000 ∧ ∀ a, H1 a = none → spOneE C n (.ref a :: (vs ++ [])) (upd H1 a (exo a C none))
      (fun v H2 => v = .non ∧ ∃ (d : Addr) (fs : List (Str × V)), H2 a = some (exo a C (some d)) ∧ H2 d = some (exd d fs) ∧ H1 d = none ∧ Q (.ref C) (some d) (upd (del H2 a) d (.xd fs))) (fun _ _ _ => False) := by
  subst e
  refine ⟨by show 1 ≤ 1000; decide, fun a ha => ⟨a, v, rfl, upd_same, fun dx hdx ne => ⟨rfl, dx, [(n, v)], upd_same, ?_, ?_, h dx _ (fun b o hb => ?_) ?_ upd_same⟩⟩⟩
  · rw [upd_ne ne, upd_same]
  · rw [upd_ne ne] at hdx
    exact hdx
  · rw [upd_ne ne] at hdx
    have hba : b ≠ a := ne_of_none hb ha
    have hbd : b ≠ dx := ne_of_none hb hdx
    rw [upd_ne hbd, del_ne hba, upd_ne hba, upd_ne hbd, upd_ne hba]
    exact hb
  · rw [upd_ne ne] at hdx
    exact hdx
section
variable {X : Cx} {x n : Str} {C f : Addr} {fd : FuncData} {ta : TA} {e : Expr} {p pos pos2 : Pos}
theorem pmk_one (O : OneE X.K X.mg x n C f fd) (F : FnOk X.prog X.w X.K X.mg X.base CX0 1 f fd ["self", n] (spOneE C n)) (hr : Room 2 X.A) (hg : Gl X x) (ha : PA X [e] ta)
    (hdb : (x == ("__debug__" : Str)) = false := by decide) (he : starEach [e] X.env = (false, eval e X.env) :: starEach [] X.env := by rfl) (hpl : (backTo pos (starEach [] X.env)).any (·.1) = false := by rfl) :
    PMk X (.Call (.Name x p) [e] [] pos) (tMkO C (spOneE C n) [] ta) :=
  pmk_oex O.T O.iC O.tI F hr O.hb .nil (fun _ _ _ _ _ _ _ h => h.elim) hg O.mgC ha hdb he hpl
/-- raise C(e) -/
theorem ps_raiseOne {W : WX} (O : OneE X.K X.mg x n C f fd) (F : FnOk X.prog X.w X.K X.mg X.base CX0 1 f fd ["self", n] (spOneE C n)) (hc : X.calm = true) (hr : Room 2 X.A) (tk : Takes X W) (hg : Gl X x) (ha : PA X [e] ta)
    (hdb : (x == ("__debug__" : Str)) = false := by decide) (he : starEach [e] X.env = (false, eval e X.env) :: starEach [] X.env := by rfl) (hpl : (backTo pos (starEach [] X.env)).any (·.1) = false := by rfl) :
    PS X (.Raise (some (.Call (.Name x p) [e] [] pos)) none pos2) (fun _ σ H => tMkO C (spOneE C n) [] ta σ H fun cls d H' => W cls d σ H') := ps_raise hc tk (pmk_one O F hr hg ha hdb he hpl)
end

/-! ### repr of data, of a tuple of a text and an empty dict -/
section
variable {X : Cx}
theorem call_reprT (hg : X.A.guards = some []) (hu : X.A.units + 64 < cLine) : CallR X (.builtin "repr") (fun xs H Q => ∃ (r a : Addr) (w : Str), xs = [.ref r] ∧ SqT X.K H r [.str w, .ref a] ∧ H a = some (.dK []) ∧ (PyData.tuple [.str w, .dict []]).shown.length ≤ sizeLine ∧ Q (.str (PyData.tuple [.str w, .dict []]).shown) H) := by
  intro pins s σ H xs us Q I r h
  obtain ⟨rr, a, w, rfl, ht, ha, hz, q⟩ := h
  obtain ⟨u, rfl, rv⟩ := vals1 r
  cases rv
  obtain ⟨its, rw', ⟨o, ho, hc, n, hd⟩, _⟩ := I.tuple ht
  obtain ⟨hz2, hsm, vs, hk, hD⟩ : ([] : List (Key × V)).length ≤ sizeLine ∧ (a == sysModules) = false ∧ ∃ vs, KV [] vs ∧ s.heap.DictOf (mixKind X.prog X.w) a vs := I.hok a _ ha
  obtain ⟨u1, u2, rfl, r1, r2⟩ := vals2 rw'
  obtain ⟨t1, rfl⟩ := r1
  cases r2
  obtain ⟨o2, es, ep, e1, e2, e3, _, e5, _⟩ := hD
  cases hk
  have es0 : es.toList = [] := by
    cases h : es.toList with
    | nil => rfl
    | cons y ys =>
      rw [h] at e5
      cases e5
  have rdD : Reads s.heap (.ref a) (.dict []) (a :: [] ++ []) := Reads.dict (kvs := []) e1 e2.1 e3 (by rw [es0]; exact ReadsAll.nil) (by rw [es0]; exact ReadsAll.nil)
  have rd : Reads s.heap (.ref rr) (.tuple [.str w, .dict []]) ([] ++ ((a :: [] ++ []) ++ [])) := Reads.tuple ho hc hd (ReadsAll.cons (Reads.str w t1) (ReadsAll.cons rdD ReadsAll.nil))
  refine repr_of_reads' rd rfl (fun _ z => ?_) hg (by show X.A.units + (2 + 1) < cLine; omega) (fun _ _ e => e) (fun h' t tk k => ?_) hz
  · have : sysModules = a := by simpa using z
    rw [this] at hsm
    simp at hsm
  · exact ⟨.str _, H, I.kept k, ⟨t, rfl⟩, q⟩
theorem CallR.or {b : Value} {r r' : List V → Hp → VK → Prop} (h : CallR X b r) (h' : CallR X b r') : CallR X b (fun xs H Q => r xs H Q ∨ r' xs H Q) := by
  intro pins s σ H xs us Q I rv q
  exact q.elim (h pins s σ H xs us Q I rv) (h' pins s σ H xs us Q I rv)
end
end So

namespace K81
open PySem PySem.Spec PyProof.Rows L2 So
/-! ### the text -/
def topS (i : Nat) : Stmt := PySem.Challenge.pw_soundtill_k81_plans_read.main.body.getD i (.Pass ⟨0, 0, 0, 0⟩)
abbrev sPen : Stmt := topS 58
abbrev sDraw : Stmt := topS 59
abbrev sPick : Stmt := topS 60
theorem scPen : FnScope ["_law_script"] ["_law_script"] (defScope sPen) := ⟨rfl, rfl, rfl, by decide +kernel, rfl, by decide +kernel, by decide +kernel⟩
theorem scDraw : FnScope ["_law_pen_here", "_law_many", "_law_digit", "_law_at", "_law_cell", "_law_great", "_law_mixed"] ["_law_pen_here", "_law_many"] (defScope sDraw) := ⟨rfl, rfl, rfl, by decide +kernel, rfl, by decide +kernel, by decide +kernel⟩
theorem scPick : FnScope ["_law_pen_here", "_law_some"] ["_law_pen_here", "_law_some"] (defScope sPick) := ⟨rfl, rfl, rfl, by decide +kernel, rfl, by decide +kernel, by decide +kernel⟩

/-! ### the pen -/
/-- the pen at p: the cells at l, how many were begun, what is left of a great one -/
structure Pen (H : Hp) (p l : Addr) (ns : List Int) (n : Nat) (g : Int) : Prop where
  pen : H p = some (.lst [.ref l, .int n, .int g])
  cells : H l = some (.lst (ns.map V.int))
  left : 0 ≤ g
/-- all that was tracked beside p is as it was -/
def Off (p : Addr) (H H' : Hp) : Prop := ∀ b o, b ≠ p → H b = some o → H' b = some o
theorem Off.refl {p : Addr} {H : Hp} : Off p H H := fun _ _ _ e => e
theorem Off.trans {p : Addr} {H H1 H2 : Hp} (a : Off p H H1) (b : Off p H1 H2) : Off p H H2 := fun c o n e => b c o n (a c o n e)
theorem Off.upd {p : Addr} {H H1 : Hp} {o : HO} (a : Off p H H1) : Off p H (upd H1 p o) := fun c u n e => by
  rw [upd_ne n]
  exact a c u n e
theorem Off.new {p q : Addr} {H H1 : Hp} {o : HO} (a : Off p H H1) (h : H1 q = none) : Off p H (L2.upd H1 q o) := fun c u n e => by
  have e1 := a c u n e
  rw [upd_ne (ne_of_none e1 h)]
  exact e1
theorem dp_ints {K : PySem.W.Frag} {H : Hp} : ∀ ns : List Int, DpAll K H (ns.map V.int) (ns.map PyData.int)
  | [] => .nil
  | n :: r => .cons (.int n) (dp_ints r)
theorem depth_ints : ∀ ns : List Int, PyData.depthAll (ns.map PyData.int) ≤ 1
  | [] => by simp [PyData.depthAll]
  | n :: r => by
    have h := depth_ints r
    simp only [List.map_cons, PyData.depthAll, PyData.depth]
    omega
theorem shaped_ints (ns : List Int) : SeqAt.shaped (.list (ns.map PyData.int)) = true := by
  unfold SeqAt.shaped
  rw [Bool.and_eq_true]
  have hd := depth_ints ns
  refine ⟨?_, decide_eq_true ?_⟩
  · show PyData.canLay0 _ = true
    simp only [PyData.canLay0]
    induction ns with
    | nil => rfl
    | cons a r ih => simpa [PyData.canLayAll0, PyData.canLay0] using ih (depth_ints r)
  · simp only [PyData.depth]
    omega
theorem Pen.apart {H : Hp} {p l : Addr} {ns : List Int} {n : Nat} {g : Int} (h : Pen H p l ns n g) : l ≠ p := by
  refine ne_of h.cells h.pen (fun z => ?_)
  injection z with z
  cases ns with
  | nil => cases z
  | cons a r => cases z
theorem eqv_nil (ds : List PyData) : PyData.eqv (.list ds) (.list []) = ds.isEmpty := by
  cases ds <;> simp [PyData.eqv, PyData.eqvAll]
section
variable {P : Program} {w : World} {K : PySem.W.Frag} {mg : Str → Option Value} {base : Heap}
def spDraw : Sp := fun vs H Q _ => ∃ (p l : Addr) (ns : List Int) (n : Nat) (g many : Int), vs = [.ref p, .int many] ∧ Pen H p l ns n g ∧ n < 1000000 ∧ 0 < many ∧ many.natAbs < 2 ^ 200 ∧
  ∀ (d : Int) (n' : Nat) (g' : Int) (H' : Hp), 0 ≤ d → d < many → n' ≤ n + 1 → Off p H H' → Pen H' p l ns n' g' → Q (.int d) H'
theorem ok_draw {f : Addr} {fd : FuncData} (F : Fun K "_law_draw" "_law_draw" sDraw f fd) (ml : mg "len" = none) (mi : mg "int" = none) (ma : mg "abs" = none) : FnOk P w K mg base CX0 1 f fd ["_law_pen_here", "_law_many"] spDraw := by
  refine F.ok scDraw (fun vs H Q E h => ?_) (fun cdv A outer s H vs Q E hr h => ?_)
  · obtain ⟨p, l, ns, n, g, many, rfl, _⟩ := h
    rfl
  · obtain ⟨p, l, ns, n, g, many, rfl, hp, hn, hm, hm2, q⟩ := h
    refine ⟨_, pss_cons (ps_if (pt_cmpR op_gt (pe_ix ix_list (pv 0) pe_int (fun _ _ => rfl)) pe_int (nomark _))
        (pss_cons (ps_set (i := 2) scDraw.nd rfl (.inl rfl) (pe_op op_mod (pe_callTy call_int1 (by rfl) mi (by decide +kernel) (pa_cons (pe_ix ix_list (pv 0) pe_int (fun _ _ => rfl)) pa_nil)) (pv 1)))
        (pss_cons (ps_asg (pe_op op_fdivW (pe_callTy call_int1 (by rfl) mi (by decide +kernel) (pa_cons (pe_ix ix_list (pv 0) pe_int (fun _ _ => rfl)) pa_nil)) (pv 1)) (pg_sub (pv 0) pe_int set_list))
        (pss_one (ps_ret (pv 2))))) pss_nil)
      (pss_cons (ps_set (i := 3) scDraw.nd rfl (.inl rfl) (pe_ix ix_list (pv 0) pe_int (fun _ _ => rfl)))
      (pss_cons (ps_asg (pe_op op_add (pv 3) pe_int) (pg_sub (pv 0) pe_int set_list))
      (pss_cons (ps_set (i := 4) scDraw.nd rfl (.inl rfl) (pe_op op_add (pe_op op_mul pe_int (pv 3)) pe_int))
      (C8.pss_cut (ps_if (pt_cmpR (op_neD (by have := hr.units; exact this)) (pe_ix ix_list (pv 0) pe_int (fun _ _ => rfl)) (pe_lst pa_nil) (nomark _))
        (pss_one (ps_set (i := 4) scDraw.nd rfl (.inl rfl) (pe_ix ix_list (pe_ix ix_list (pv 0) pe_int (fun _ _ => rfl)) (pe_op op_mod (pe_callTy call_int1 (by rfl) mi (by decide +kernel) (pa_cons (pv 3) pa_nil)) (pe_callB call_len_seq (by rfl) ml PySem.boot_len (pa_cons (pe_ix ix_list (pv 0) pe_int (fun _ _ => rfl)) pa_nil))) (fun _ _ => rfl)))) pss_nil)
      (pss_cons (ps_if (PW.pt (pw_and (pt_cmpR op_lt (pv 3) (pe_callB call_len_seq (by rfl) ml PySem.boot_len (pa_cons (pe_ix ix_list (pv 0) pe_int (fun _ _ => rfl)) pa_nil)) (nomark _))
            (pw_and1 (pt_cmpR op_ge (pe_callB call_abs (by rfl) ma (by decide +kernel) (pa_cons (pv 4) pa_nil)) (pe_op op_pow pe_int pe_int) (nomark _)))))
        (pss_cons (ps_set (i := 5) scDraw.nd rfl (.inl rfl) (pe_op op_add (pe_op op_mul pe_int (pe_op op_sub (pe_callB call_abs (by rfl) ma (by decide +kernel) (pa_cons (pv 4) pa_nil)) (pe_op op_pow pe_int pe_int)))
            (pe_callTy call_int1 (by rfl) mi (by decide +kernel) (pa_cons (pe_cmpR op_lt (pv 4) pe_int (nomark _)) pa_nil))))
        (pss_cons (ps_asg (pe_op op_fdivW (pe_callTy call_int1 (by rfl) mi (by decide +kernel) (pa_cons (pv 5) pa_nil)) (pv 1)) (pg_sub (pv 0) pe_int set_list))
        (pss_one (ps_ret (pe_op op_mod (pe_callTy call_int1 (by rfl) mi (by decide +kernel) (pa_cons (pv 5) pa_nil)) (pv 1)))))) pss_nil)
      (pss_cons (ps_set (i := 6) scDraw.nd rfl (.inl rfl) (pe_op op_mod (pe_callTy call_int1 (by rfl) mi (by decide +kernel) (pa_cons
          (pe_op op_pow (pe_op op_add (pe_op op_add (pe_op op_mod (pe_callTy call_int1 (by rfl) mi (by decide +kernel) (pa_cons (pv 4) pa_nil)) pe_int) (pe_op op_mul pe_int (pv 3))) pe_int) pe_int) pa_nil)) pe_int))
      (pss_cons (ps_set (i := 6) scDraw.nd rfl (.inl rfl) (pe_op op_mod (pe_callTy call_int1 (by rfl) mi (by decide +kernel) (pa_cons
          (pe_op op_pow (pe_op op_add (pe_op op_add (pe_op op_mul (pv 6) (pe_op op_add (pe_op op_mul pe_int (pv 3)) pe_int)) (pe_op op_mul (pe_op op_mul pe_int (pv 3)) (pv 3))) pe_int) pe_int) pa_nil)) pe_int))
      (pss_one (ps_ret (pe_op op_mod (pe_callTy call_int1 (by rfl) mi (by decide +kernel) (pa_cons (pe_op op_fdiv (pv 6) pe_int) pa_nil)) (pv 1))))))))))), ?_⟩
    have hP : SqL K H p [.ref l, .int n, .int g] := SqL.of hp.pen
    refine ⟨_, rfl, p, _, 2, _, rfl, rfl, hP, atI_nat (j := 2) rfl, _, _, rfl, rfl, _, rfl, ite2 (fun e => ?_) (fun e => ?_)⟩
    · refine ⟨_, rfl, p, _, 2, _, rfl, rfl, hP, atI_nat (j := 2) rfl, .inl ⟨_, rfl, _, rfl, _, _, rfl, rfl, hm, ?_⟩⟩
      refine ⟨_, rfl, p, _, 2, _, rfl, rfl, hP, atI_nat (j := 2) rfl, .inl ⟨_, rfl, _, rfl, _, _, rfl, rfl, wide_div hm hm2 (by decide) (by decide), _, rfl, p, _, 2, 2, rfl, rfl, hp.pen, rfl, ?_⟩⟩
      refine ⟨_, rfl, q _ n (g / many) _ (Int.emod_nonneg _ (Int.ne_of_gt hm)) (Int.emod_lt_of_pos _ hm) (by omega) Off.refl.upd ⟨upd_same, (upd_ne hp.apart).trans hp.cells, Int.ediv_nonneg hp.left (Int.le_of_lt hm)⟩⟩
    · refine ⟨_, rfl, p, _, 1, _, rfl, rfl, hP, atI_nat (j := 1) rfl, ?_⟩
      refine ⟨_, rfl, _, _, rfl, rfl, _, rfl, p, _, 1, 1, rfl, rfl, hp.pen, rfl, ?_⟩
      have hP1 : (upd H p (.lst [.ref l, .int (n + 1), .int g])) p = some (.lst [.ref l, .int (n + 1), .int g]) := upd_same
      have hL1 : (upd H p (.lst [.ref l, .int (n + 1), .int g])) l = some (.lst (ns.map V.int)) := (upd_ne hp.apart).trans hp.cells
      have hO1 : Off p H (upd H p (.lst [.ref l, .int (n + 1), .int g])) := Off.refl.upd
      refine ⟨_, rfl, _, _, rfl, rfl, .inl ⟨by decide, by decide⟩, _, _, rfl, rfl, ?_⟩
      refine ⟨fun σ' H2 => ∃ c : Int, σ' = [some (.ref p), some (.int many), none, some (.int n), some (.int c), none, none] ∧ H2 p = some (.lst [.ref l, .int (n + 1), .int g]) ∧ H2 l = some (.lst (ns.map V.int)) ∧ Off p H H2, ?_, ?_⟩
      · refine ⟨_, rfl, p, _, 0, _, rfl, rfl, SqL.of hP1, atI_nat (j := 0) rfl, Nat.zero_le _, fun z hz => ?_⟩
        have hP2 := (upd_ne (o := .lst []) (ne_of_none hP1 hz)).trans hP1
        have hL2 := (upd_ne (o := .lst []) (ne_of_none hL1 hz)).trans hL1
        refine ⟨.list (ns.map PyData.int), .list [], .lst (SqL.of hL2) (dp_ints ns), .lst (SqL.of upd_same) .nil, shaped_ints ns, by decide, _, rfl, ite2 (fun e1 => ?_) (fun e1 => ?_)⟩
        · rw [eqv_nil] at e1
          have hlen : 0 < ns.length := by
            cases ns with
            | nil => cases e1
            | cons a r => exact Nat.succ_pos _
          have hlt : n % ns.length < ns.length := Nat.mod_lt _ hlen
          refine ⟨_, rfl, p, _, 0, _, rfl, rfl, SqL.of hP2, atI_nat (j := 0) rfl, _, rfl, .inl ⟨_, rfl, _, rfl, p, _, 0, _, rfl, rfl, SqL.of hP2, atI_nat (j := 0) rfl, l, _, rfl, .inl (SqL.of hL2), _, _, rfl, rfl, (by rw [List.length_map]; omega), l, _, _, .int ns[n % ns.length], rfl, rfl, SqL.of hL2, ?_, ?_⟩⟩
          · have e2 : ((n : Int) % (((ns.map V.int).length : Nat) : Int)) = ((n % ns.length : Nat) : Int) := by
              rw [List.length_map]
              exact (Int.natCast_emod n ns.length).symm
            rw [e2]
            refine atI_nat ?_
            rw [List.getElem?_map, List.getElem?_eq_getElem hlt]
            rfl
          · exact ⟨_, rfl, hP2, hL2, hO1.new hz⟩
        · exact ⟨_, rfl, hP2, hL2, hO1.new hz⟩
      · rintro σ' H2 ⟨c, rfl, hP2, hL2, hO2⟩
        have hmix : ∀ t : Int, 0 ≤ t % many ∧ t % many < many := fun t => ⟨Int.emod_nonneg _ (Int.ne_of_gt hm), Int.emod_lt_of_pos _ hm⟩
        have bm : ∀ Y : Int, 0 ≤ Y % 2147483629 ∧ Y % 2147483629 < 2147483629 := fun Y => ⟨Int.emod_nonneg _ (by decide), Int.emod_lt_of_pos _ (by decide)⟩
        have bd : ∀ Y : Int, -(2 ^ 64) < Y % 2147483629 ∧ Y % 2147483629 < 2 ^ 64 := fun Y => by
          have := bm Y
          omega
        have key : ∀ Y : Int, ((Y % 2147483629) * (2 * (n : Int) + 47) + 54139 * (n : Int) * (n : Int) + 41).natAbs < 2 ^ 64 := by
          intro Y
          have b2 := bm Y
          revert b2
          generalize Y % 2147483629 = m1
          intro b2
          have b3 : 0 ≤ m1 * (2 * (n : Int) + 47) ∧ m1 * (2 * (n : Int) + 47) ≤ 2147483629 * 2000047 := ⟨Int.mul_nonneg b2.1 (by omega), Int.mul_le_mul (by omega) (by omega) (by omega) (by decide)⟩
          have b4 : 0 ≤ 54139 * (n : Int) * (n : Int) ∧ 54139 * (n : Int) * (n : Int) ≤ (54139 * 1000000) * 1000000 := ⟨Int.mul_nonneg (by omega) (by omega), Int.mul_le_mul (by omega) (by omega) (by omega) (by decide)⟩
          omega
        refine ⟨_, rfl, _, rfl, p, _, 0, _, rfl, rfl, SqL.of hP2, atI_nat (j := 0) rfl, l, _, rfl, .inl (SqL.of hL2), _, _, rfl, rfl, _, rfl, ite2 (fun e1 => ⟨_, rfl, _, rfl, _, _, rfl, rfl, ⟨by decide, by decide, by decide⟩, _, _, rfl, rfl, _, rfl, ite2 (fun e2 => ?great) (fun e2 => ?late)⟩) (fun e1 => ?small)⟩
        case great =>
          have e3 : (10 : Int) ^ (18 : Int).toNat ≤ (if c < 0 then -c else c) := of_decide_eq_true e2
          refine ⟨_, rfl, _, rfl, _, _, rfl, rfl, ⟨by decide, by decide, by decide⟩, _, _, rfl, rfl, _, _, rfl, rfl, .inl ⟨by decide, by decide⟩, _, rfl, _, _, rfl, rfl, .inr ⟨_, rfl, _, _, rfl, rfl, ?_⟩⟩
          have hG : ∀ k : Bool, 0 ≤ 2 * ((if c < 0 then -c else c) - (10 : Int) ^ (18 : Int).toNat) + (if k = true then (1 : Int) else 0) := by
            intro k
            have : (0 : Int) ≤ (if k = true then (1 : Int) else 0) := by cases k <;> decide
            omega
          have hG1 := hG (decide (c < 0))
          refine ⟨_, rfl, .inl ⟨_, rfl, _, rfl, _, _, rfl, rfl, wide_div hm hm2 (by decide) (by decide), _, rfl, p, _, 2, 2, rfl, rfl, hP2, rfl, ?_⟩⟩
          exact ⟨_, rfl, .inl ⟨_, rfl, _, rfl, _, _, rfl, rfl, hm, q _ (n + 1) _ _ (hmix _).1 (hmix _).2 (Nat.le_refl _) hO2.upd ⟨upd_same, (upd_ne (Pen.apart ⟨hP2, hL2, hp.left⟩)).trans hL2, Int.ediv_nonneg hG1 (Int.le_of_lt hm)⟩⟩⟩
        all_goals
          have b1 : 0 ≤ c % 2147483549 ∧ c % 2147483549 < 2147483549 := ⟨Int.emod_nonneg _ (by decide), Int.emod_lt_of_pos _ (by decide)⟩
          refine ⟨_, rfl, .inl ⟨_, rfl, _, _, rfl, rfl, (by decide : (0 : Int) < 2147483549), _, rfl, _, _, rfl, rfl, .inl ⟨by decide, by decide⟩, _, _, rfl, rfl, _, _, rfl, rfl, _, _, rfl, rfl, ⟨by decide, by decide, ?_⟩, .inl ⟨_, rfl, _, _, rfl, rfl, (by decide : (0 : Int) < 2147483629), ?_⟩⟩⟩
          · omega
          refine ⟨_, rfl, _, rfl, _, _, rfl, rfl, .inl ⟨by decide, by decide⟩, _, _, rfl, rfl, _, _, rfl, rfl, .inl (bd _), _, rfl, _, _, rfl, rfl, .inl ⟨by decide, by decide⟩, _, rfl, _, _, rfl, rfl, .inr ⟨?_, ?_⟩, _, _, rfl, rfl, _, _, rfl, rfl, _, _, rfl, rfl, ⟨by decide, by decide, key _⟩, .inl ⟨_, rfl, _, _, rfl, rfl, (by decide : (0 : Int) < 2147483587), ?_⟩⟩
          · omega
          · omega
          exact ⟨_, rfl, _, _, rfl, rfl, ⟨by decide, by decide⟩, .inl ⟨_, rfl, _, rfl, _, _, rfl, rfl, hm, q _ (n + 1) g H2 (hmix _).1 (hmix _).2 (Nat.le_refl _) hO2 ⟨hP2, hL2, hp.left⟩⟩⟩


/-- one of a list's things, one of a text's signs -/
def spPick (K : PySem.W.Frag) : Sp := fun vs H Q _ => ∃ (p l : Addr) (ns : List Int) (n : Nat) (g : Int) (y : V), vs = [.ref p, y] ∧ Pen H p l ns n g ∧ n < 1000000 ∧
  ((∃ (q : Addr) (xs : List V), y = .ref q ∧ q ≠ p ∧ H q = some (.lst xs) ∧ 0 < xs.length ∧ xs.length ≤ 1000 ∧
    ∀ (v : V) (n' : Nat) (g' : Int) (H' : Hp), v ∈ xs → n' ≤ n + 1 → Off p H H' → Pen H' p l ns n' g' → Q v H') ∨
   (∃ z : Str, y = .str z ∧ 0 < z.length ∧ z.length ≤ 1000 ∧
    ∀ (c : Nat) (n' : Nat) (g' : Int) (H' : Hp), c ∈ z.cps.toList → n' ≤ n + 1 → Off p H H' → Pen H' p l ns n' g' → Q (.str (⟨#[c]⟩)) H'))
theorem ok_pick {f fD : Addr} {fd fdD : FuncData} (F : Fun K "_law_pick" "_law_pick" sPick f fd) (ml : mg "len" = none) (FD : Fun K "_law_draw" "_law_draw" sDraw fD fdD) (bD : Binds K fdD ["_law_pen_here", "_law_many"] []) (gD : mg "_law_draw" = some (.ref fD))
    (GD : FnOk P w K mg base CX0 1 fD fdD ["_law_pen_here", "_law_many"] spDraw) : FnOk P w K mg base CX0 2 f fd ["_law_pen_here", "_law_some"] (spPick K) := by
  refine F.ok scPick (fun vs H Q E h => ?_) (fun cdv A outer s H vs Q E hr h => ?_)
  · obtain ⟨p, l, ns, n, g, y, rfl, _⟩ := h
    rfl
  · obtain ⟨p, l, ns, n, g, y, rfl, hp, hn, k⟩ := h
    refine ⟨_, pss_one (ps_ret (pe_ix (ix_list.or ix_str) (pv 1) (pe_call GD hr (by rfl) gD FD.kp bD .nil pass0 (pa_cons (pv 0) (pa_cons (pe_callB (So.CallR.or call_len_seq call_len_str) (by rfl) ml PySem.boot_len (pa_cons (pv 1) pa_nil)) pa_nil))) (fun _ _ => rfl))), ?_⟩
    rcases k with ⟨q, xs, rfl, hne, hq, h0, h1, k⟩ | ⟨z, rfl, h0, h1, k⟩
    · refine ⟨_, rfl, _, rfl, _, rfl, .inl ⟨q, _, rfl, .inl (SqL.of hq), p, l, ns, n, g, _, rfl, hp, hn, by omega, ?_, ?_⟩⟩
      · have : ((xs.length : Nat) : Int).natAbs = xs.length := Int.natAbs_natCast _
        rw [this]
        exact Nat.lt_of_le_of_lt h1 (by decide)
      · intro d n' g' H' d0 d1 hn' off pen
        obtain ⟨j, rfl⟩ : ∃ j : Nat, d = j := ⟨d.toNat, by omega⟩
        have hlt : j < xs.length := by omega
        exact .inl ⟨q, xs, j, xs[j], rfl, rfl, SqL.of (off q _ hne hq), atI_nat (List.getElem?_eq_getElem hlt), k _ n' g' H' (List.getElem_mem hlt) hn' off pen⟩
    · refine ⟨_, rfl, _, rfl, _, rfl, .inr ⟨z, rfl, Nat.le_trans h1 (by decide), p, l, ns, n, g, _, rfl, hp, hn, by omega, ?_, ?_⟩⟩
      · have : ((z.length : Nat) : Int).natAbs = z.length := Int.natAbs_natCast _
        rw [this]
        exact Nat.lt_of_le_of_lt h1 (by decide)
      · intro d n' g' H' d0 d1 hn' off pen
        obtain ⟨j, rfl⟩ : ∃ j : Nat, d = j := ⟨d.toNat, by omega⟩
        have hz : z.length = z.cps.toList.length := Array.length_toList.symm
        have hlt : j < z.cps.toList.length := by omega
        exact .inr ⟨z, j, z.cps.toList[j], rfl, rfl, Nat.le_trans h1 (by decide), atI_nat (List.getElem?_eq_getElem hlt), k _ n' g' H' (List.getElem_mem hlt) hn' off pen⟩
theorem Pen.new {H : Hp} {p l q : Addr} {ns : List Int} {n : Nat} {g : Int} {o : HO} (h : Pen H p l ns n g) (hq : H q = none) : Pen (upd H q o) p l ns n g :=
  ⟨(upd_ne (ne_of_none h.pen hq)).trans h.pen, (upd_ne (ne_of_none h.cells hq)).trans h.cells, h.left⟩
end
end K81

namespace K81
open PySem PySem.Spec PyProof.Rows L2 So
abbrev sWhole : Stmt := topS 15
abbrev sMoment : Stmt := topS 16
abbrev sName : Stmt := topS 17
abbrev sCheck : Stmt := topS 18
abbrev sWordOf : Stmt := topS 25
theorem scWhole : FnScope ["value"] ["value"] (defScope sWhole) := ⟨rfl, rfl, rfl, by decide +kernel, rfl, by decide +kernel, by decide +kernel⟩
theorem scMoment : FnScope ["value"] ["value"] (defScope sMoment) := ⟨rfl, rfl, rfl, by decide +kernel, rfl, by decide +kernel, by decide +kernel⟩
theorem scName : FnScope ["value", "sign"] ["value"] (defScope sName) := ⟨rfl, rfl, rfl, by decide +kernel, rfl, by decide +kernel, by decide +kernel⟩
theorem scCheck : FnScope ["value", "form"] ["value", "form"] (defScope sCheck) := ⟨rfl, rfl, rfl, by decide +kernel, rfl, by decide +kernel, by decide +kernel⟩
theorem scWordOf : FnScope ["value"] ["value"] (defScope sWordOf) := ⟨rfl, rfl, rfl, by decide +kernel, rfl, by decide +kernel, by decide +kernel⟩
/-! ### what a name is -/
def letters : Str := "abcdefghijklmnopqrstuvwxyz"
def digits : Str := "0123456789"
def noNames : List Str := ["begun", "setby", "found", "trusted", "passed", "failed", "agreed", "differed", "served", "backed", "sound", "unsound", "sure", "never", "open", "none", "record", "lot", "menu", "wanted"]
def isAln (c : Nat) : Bool := decide (c ∈ (letters ++ digits).cps.toList)
def isName (z : Str) : Bool := decide (1 ≤ z.length) && decide (z.length ≤ 8) && !(noNames.contains z) && decide (z.cps.toList.headD 0 ∈ letters.cps.toList) && z.cps.toList.all isAln
/-- the module's names that the words of the package read -/
structure Words (K : PySem.W.Frag) (mg : Str → Option Value) : Prop where
  greatest : ∃ t, mg "GREATEST" = some (.int 1000000000000000000000000000000 t)
  longest : ∃ t, mg "LONGEST_NAME" = some (.int 8 t)
  letters : ∃ t, mg "LETTERS" = some (.str letters t)
  digits : ∃ t, mg "DIGITS" = some (.str digits t)
  noNames : ∃ a, mg "NO_NAMES" = some (.ref a) ∧ ∀ H : Hp, SqT K H a (noNames.map V.str)
  isi : mg "isinstance" = none
  int : mg "int" = none
  bool : mg "bool" = none
  str : mg "str" = none
  len : mg "len" = none
  all : mg "all" = none
section
variable {P : Program} {w : World} {K : PySem.W.Frag} {mg : Str → Option Value} {base : Heap}
theorem kit_int_int : PySem.W.kitOne K (.type "int") (.type "int") = some true := kit_ty (by decide +kernel)
theorem kit_int_bool : PySem.W.kitOne K (.type "int") (.type "bool") = some false := kit_ty (by decide +kernel)
theorem kit_str_str : PySem.W.kitOne K (.type "str") (.type "str") = some true := kit_ty (by decide +kernel)
theorem kit_bool_bool : PySem.W.kitOne K (.type "bool") (.type "bool") = some true := kit_ty (by decide +kernel)

/-- the values that the law draws: what each is, by its type's name -/
inductive Gv (H : Hp) : V → String → Prop where
  | non : Gv H .non "NoneType"
  | bl (b : Bool) : Gv H (.bl b) "bool"
  | int (i : Int) : Gv H (.int i) "int"
  | str (z : Str) (h : z.length ≤ 2000) : Gv H (.str z) "str"
  | lst {a : Addr} {xs : List V} (e : H a = some (.lst xs)) : Gv H (.ref a) "list"
  | tup {a : Addr} {xs : List V} (e : H a = some (.tup xs)) : Gv H (.ref a) "tuple"
  | dK {a : Addr} {kvs : List (Key × V)} (e : H a = some (.dK kvs)) : Gv H (.ref a) "dict"
theorem Gv.ty {H : Hp} {v : V} {T : String} (h : Gv H v T) : TyX K H v (.type T) := by
  cases h with
  | non => exact .base .non
  | bl b => exact .base (.bl b)
  | int i => exact .base (.int i)
  | str z h => exact .base (.str z)
  | lst e => exact .base (.lst e)
  | tup e => exact .base (.tup e)
  | dK e => exact .base (.dK e)
theorem Gv.same {H H' : Hp} {v : V} {T : String} (h : Gv H v T) (s : Same H H') : Gv H' v T := by
  cases h with
  | non => exact .non
  | bl b => exact .bl b
  | int i => exact .int i
  | str z h => exact .str z h
  | lst e => exact .lst (s _ _ e)
  | tup e => exact .tup (s _ _ e)
  | dK e => exact .dK (s _ _ e)
theorem Gv.off {H H' : Hp} {v : V} {T : String} {p : Addr} (h : Gv H v T) (n : v ≠ .ref p) (s : Off p H H') : Gv H' v T := by
  cases h with
  | non => exact .non
  | bl b => exact .bl b
  | int i => exact .int i
  | str z h => exact .str z h
  | lst e => exact .lst (s _ _ (fun z => n (by rw [z])) e)
  | tup e => exact .tup (s _ _ (fun z => n (by rw [z])) e)
  | dK e => exact .dK (s _ _ (fun z => n (by rw [z])) e)
def gInt : V → Bool
  | .int _ => true
  | _ => false
def gMom : V → Bool
  | .int i => decide (0 ≤ i ∧ i ≤ 1000000000000000000000000000000)
  | _ => false
def gNam : V → Bool
  | .str z => isName z
  | _ => false
def gTru : V → Bool
  | .bl _ => true
  | _ => false
/-- what isinstance says of such a value and a built-in type -/
theorem Gv.kit {H : Hp} {v : V} {T : String} (h : Gv H v T) (c : String) (hc : c = "int" ∨ c = "bool" ∨ c = "str") : PySem.W.kitOne K (.type T) (.type c) = some (decide (T = c ∨ (T = "bool" ∧ c = "int"))) := by
  rcases hc with rfl | rfl | rfl <;> cases h <;> exact kit_ty (by decide +kernel)
/-- is_whole -/
def spWhole : Sp := fun vs H Q _ => ∃ (v : V) (T : String), vs = [v] ∧ Gv H v T ∧ Q (.bl (gInt v)) H
theorem ok_whole {f : Addr} {fd : FuncData} (F : Fun K "is_whole" "is_whole" sWhole f fd) (W : Words K mg) : FnOk P w K mg base CX0 1 f fd ["value"] spWhole := by
  refine F.ok scWhole (fun vs H Q E h => ?_) (fun cdv A outer s H vs Q E hr h => ?_)
  · obtain ⟨v, T, rfl, _⟩ := h
    rfl
  · obtain ⟨v, T, rfl, hv, q⟩ := h
    refine ⟨_, pss_one (ps_ret (pe_and (pe_callB call_isi (by rfl) W.isi (by decide +kernel) (pa_cons (pv 0) (pa_cons (pe_bltn (v := .ty "int") (by rfl) W.int (by decide +kernel) rfl) pa_nil)))
      (pe_one (pe_not (pe_callB call_isi (by rfl) W.isi (by decide +kernel) (pa_cons (pv 0) (pa_cons (pe_bltn (v := .ty "bool") (by rfl) W.bool (by decide +kernel) rfl) pa_nil))))))), ?_⟩
    refine ⟨_, rfl, _, _, _, _, _, rfl, .ty "int", hv.ty, hv.kit "int" (.inl rfl), _, rfl, ?_⟩
    cases hv with
    | int i =>
      refine iteT ?_
      exact ⟨_, rfl, _, _, _, _, false, rfl, .ty "bool", .base (.int i), kit_int_bool, _, rfl, q⟩
    | bl b =>
      refine iteT ?_
      exact ⟨_, rfl, _, _, _, _, true, rfl, .ty "bool", .base (.bl b), kit_bool_bool, _, rfl, q⟩
    | non => exact iteF q
    | str z h => exact iteF q
    | lst e => exact iteF q
    | tup e => exact iteF q
    | dK e => exact iteF q
/-- is_moment -/
def spMoment : Sp := fun vs H Q _ => ∃ (v : V) (T : String), vs = [v] ∧ Gv H v T ∧ Q (.bl (gMom v)) H
theorem ok_moment {f fW : Addr} {fd fdW : FuncData} (F : Fun K "is_moment" "is_moment" sMoment f fd) (W : Words K mg) (FW : Fun K "is_whole" "is_whole" sWhole fW fdW) (bW : Binds K fdW ["value"] []) (gW : mg "is_whole" = some (.ref fW)) :
    FnOk P w K mg base CX0 2 f fd ["value"] spMoment := by
  have GW : FnOk P w K mg base CX0 1 fW fdW ["value"] spWhole := ok_whole FW W
  refine F.ok scMoment (fun vs H Q E h => ?_) (fun cdv A outer s H vs Q E hr h => ?_)
  · obtain ⟨v, T, rfl, _⟩ := h
    rfl
  · obtain ⟨v, T, rfl, hv, q⟩ := h
    obtain ⟨tG, hG⟩ := W.greatest
    refine ⟨_, pss_one (ps_ret (pe_and (pe_call GW hr (by rfl) gW FW.kp bW .nil pass0 (pa_cons (pv 0) pa_nil)) (pe_one (pe_chain op_le op_le pe_int (pv 0) (pe_glob (v := .int 1000000000000000000000000000000) rfl hG ⟨_, rfl⟩))))), ?_⟩
    refine ⟨_, rfl, v, T, rfl, hv, gInt v, rfl, ?_⟩
    cases hv with
    | int i =>
      refine iteT ?_
      refine ⟨_, rfl, _, _, rfl, rfl, _, rfl, ite2 (fun e => ?_) (fun e => ?_)⟩
      · have e' : 0 ≤ i := of_decide_eq_true e
        refine ⟨_, _, rfl, rfl, ?_⟩
        have : gMom (.int i) = decide (i ≤ 1000000000000000000000000000000) := by simp [gMom, e']
        rw [this] at q
        exact q
      · have e' : ¬ 0 ≤ i := fun z => e (decide_eq_true z)
        have : gMom (.int i) = false := by simp [gMom, e']
        rw [this] at q
        exact q
    | bl b => exact iteF q
    | non => exact iteF q
    | str z h => exact iteF q
    | lst e => exact iteF q
    | tup e => exact iteF q
    | dK e => exact iteF q

theorem inV_strs (z : Str) : ∀ l : List Str, inV (.str z) (l.map V.str) = l.contains z
  | [] => rfl
  | x :: r => by
    have h := inV_strs z r
    have e : eqV (.str x) (.str z) = (z == x) := Bool.beq_comm (a := x) (b := z)
    show (eqV (.str x) (.str z) || inV (.str z) (r.map V.str)) = _
    rw [h, e, List.contains_cons]
theorem flat_strs (l : List Str) : (l.map V.str).all flatV = true := by
  rw [List.all_map]
  exact List.all_eq_true.mpr fun _ _ => rfl
theorem Same.over {H H1 : Hp} {D : Addr} {o : HO} (s : Same H H1) (h : H D = none) : Same H (upd H1 D o) := fun b u e => by
  rw [upd_ne (ne_of_none e h)]
  exact s b u e
/-- is_name -/
def spName : Sp := fun vs H Q _ => ∃ (v : V) (T : String), vs = [v] ∧ Gv H v T ∧ ∀ H', Same H H' → Q (.bl (gNam v)) H'
theorem ok_name {f : Addr} {fd : FuncData} (F : Fun K "is_name" "is_name" sName f fd) (W : Words K mg) : FnOk P w K mg base CX0 1 f fd ["value"] spName := by
  refine F.ok scName (fun vs H Q E h => ?_) (fun cdv A outer s H vs Q E hr h => ?_)
  · obtain ⟨v, T, rfl, _⟩ := h
    rfl
  · obtain ⟨v, T, rfl, hv, q⟩ := h
    obtain ⟨tL, hL⟩ := W.longest
    obtain ⟨tA, hA⟩ := W.letters
    obtain ⟨tD, hD⟩ := W.digits
    obtain ⟨aN, gN, hN⟩ := W.noNames
    have gA : ∀ {X : Cx}, X.mg = mg → True := fun _ => trivial
    refine ⟨_, pss_cons (ps_if (PW.pt (pw_or (pt_not (pt_val (pe_callB call_isi (by rfl) W.isi (by decide +kernel) (pa_cons (pv 0) (pa_cons (pe_bltn (v := .ty "str") (by rfl) W.str (by decide +kernel) rfl) pa_nil)))))
        (pw_or (pt_not (pt_chain op_le op_le pe_int (pe_callB call_len_str (by rfl) W.len PySem.boot_len (pa_cons (pv 0) pa_nil)) (pe_glob (v := .int 8) rfl hL ⟨_, rfl⟩)))
          (pw_or1 (pt_cmpR op_in_seq (pv 0) (pe_glob (v := .ref aN) rfl gN rfl) (by rfl))))))
        (pss_one (ps_ret pe_bl)) pss_nil)
      (pss_one (ps_ret (pe_and (pe_cmpR op_in_sign (pe_ix ix_str (pv 0) pe_int (fun _ _ => rfl)) (pe_glob (v := .str letters) rfl hA ⟨_, rfl⟩) (by rfl))
        (pe_one (pe_callB (cr_all rfl) (by rfl) W.all (by decide +kernel) (pa_cons (pe_lc (own := [("sign", 1)]) (g := gName 1) (tt := tYes) rfl scName.nd (pi_str (pv 0)) (blkOk_by (N := ["value", "sign"]) (sc := defScope sName) (by decide +kernel))
          (fun _ _ _ _ _ => pg_name (i := 1) scName.nd rfl (Or.inl rfl)) (fun _ _ _ _ _ => pts_nil)
          (fun _ _ _ _ _ => pe_cmpR op_in_sign (pv 1) (pe_op op_add_str (pe_glob (v := .str letters) rfl hA ⟨_, rfl⟩) (pe_glob (v := .str digits) rfl hD ⟨_, rfl⟩)) (by rfl))) pa_nil)))))), ?_⟩
    refine ⟨_, rfl, _, _, _, _, _, rfl, .ty "str", hv.ty, hv.kit "str" (.inr (.inr rfl)), _, rfl, ?_⟩
    cases hv with
    | non => exact iteT (q H (Same.refl H))
    | bl b => exact iteT (q H (Same.refl H))
    | int i => exact iteT (q H (Same.refl H))
    | lst e => exact iteT (q H (Same.refl H))
    | tup e => exact iteT (q H (Same.refl H))
    | dK e => exact iteT (q H (Same.refl H))
    | str z hz => ?_
    have q : ∀ H', Same H H' → Q (.bl (isName z)) H' := q
    have hzl : z.length ≤ sizeLine := Nat.le_trans hz (by decide)
    refine iteF ?_
    have no : isName z = false → Q (.bl false) H := fun e => by
      have := q H (Same.refl H)
      rw [e] at this
      exact this
    refine ⟨_, rfl, _, rfl, hzl, _, _, rfl, rfl, _, rfl, ite2 (fun c1 => ?_) (fun c1 => ⟨_, rfl, iteT (no ?_)⟩)⟩
    case refine_2 =>
      have c1' : ¬ (1 : Int) ≤ ((z.length : Nat) : Int) := fun e => c1 (decide_eq_true e)
      unfold isName
      rw [show decide (1 ≤ z.length) = false from decide_eq_false (by omega)]
      rfl
    have c1' : (1 : Int) ≤ ((z.length : Nat) : Int) := of_decide_eq_true c1
    refine ⟨_, _, rfl, rfl, _, rfl, ?_⟩
    by_cases c2 : ((z.length : Nat) : Int) ≤ 8
    case neg =>
      rw [decide_eq_false c2]
      refine iteT (no ?_)
      unfold isName
      rw [show decide (z.length ≤ 8) = false from decide_eq_false (by omega), Bool.and_false]
      rfl
    rw [decide_eq_true c2]
    refine iteF ⟨_, rfl, aN, _, rfl, .inr (hN H), rfl, flat_strs _, ?_⟩
    refine ⟨_, rfl, ?_⟩
    rw [show inV (.str z) (noNames.map V.str) = noNames.contains z from inV_strs z noNames]
    cases c3 : noNames.contains z with
    | true =>
      refine iteT (no ?_)
      unfold isName
      rw [c3, Bool.not_true, Bool.and_false]
      rfl
    | false =>
      refine iteF ?_
      have hz0 : 0 < z.cps.toList.length := by
        have : z.length = z.cps.toList.length := Array.length_toList.symm
        omega
      obtain ⟨c0, cr, hc⟩ : ∃ c0 cr, z.cps.toList = c0 :: cr := by
        cases e : z.cps.toList with
        | nil => rw [e] at hz0; cases hz0
        | cons a r => exact ⟨a, r, rfl⟩
      have e1 : decide (1 ≤ z.length) = true := decide_eq_true (by omega)
      have e2 : decide (z.length ≤ 8) = true := decide_eq_true (by omega)
      have e3 : isName z = (decide (c0 ∈ letters.cps.toList) && z.cps.toList.all isAln) := by
        unfold isName
        rw [e1, e2, c3, hc]
        rfl
      refine ⟨_, rfl, _, _, c0, rfl, rfl, hzl, ?_, _, _, rfl, rfl, _, rfl, ite2 (fun c4 => ?_) (fun c4 => ?_)⟩
      · rw [hc]
        exact atI_nat (j := 0) rfl
      · refine ⟨_, rfl, _, rfl, fun D hD => lc_it walk_str (fun i H' => H' D = some (.lst ((z.cps.toList.take i).map fun c => V.bl (isAln c))) ∧ Same H H') ⟨?_, ?_⟩ (fun _ _ _ _ => trivial) ?_ ?_⟩
        · exact upd_same
        · exact Same.over (Same.refl H) hD
        · rintro i x H1 H2 hi ⟨h1, s1⟩ ⟨rfl, c, hc1, rfl⟩
          have hc2 : z.cps.toList[i]? = some c := by
            rw [Array.getElem?_toList]
            exact hc1
          refine ⟨rfl, _, rfl, _, _, rfl, rfl, by decide, c, _, rfl, rfl, _, h1, ?_, ?_, Same.over s1 hD⟩
          · rw [List.length_map, List.length_take]
            have : z.cps.toList.length = z.length := Array.length_toList
            exact Nat.lt_of_le_of_lt (Nat.le_trans (Nat.min_le_right _ _) (by omega)) (by decide : 2000 < sizeLine)
          · rw [upd_same, List.take_add_one, hc2, List.map_append]
            rfl
        · rintro H1 ⟨h1, s1⟩
          refine ⟨D, z.cps.toList.map isAln, rfl, SqL.of ?_, ?_⟩
          · rw [h1, List.take_of_length_le (by rw [Array.length_toList]; exact Nat.le_refl _), List.map_map]
            rfl
          · have := q H1 s1
            rw [e3, show decide (c0 ∈ letters.cps.toList) = true from c4, Bool.true_and] at this
            rw [List.all_map]
            exact this
      · refine no ?_
        rw [e3]
        have : decide (c0 ∈ letters.cps.toList) = false := by
          cases h : decide (c0 ∈ letters.cps.toList) with
          | true => exact absurd h c4
          | false => rfl
        rw [this]
        rfl
end
end K81

namespace K81
open PySem PySem.Spec PyProof.Rows L2 So
abbrev sEN : Stmt := inClass (topS 3) 0
abbrev sEM : Stmt := inClass (topS 4) 0
abbrev sES : Stmt := inClass (topS 5) 0
theorem scEN : FnScope ["self", "name"] ["self", "name"] (defScope sEN) := ⟨rfl, rfl, rfl, by decide +kernel, rfl, by decide +kernel, by decide +kernel⟩
theorem scEM : FnScope ["self", "moment"] ["self", "moment"] (defScope sEM) := ⟨rfl, rfl, rfl, by decide +kernel, rfl, by decide +kernel, by decide +kernel⟩
theorem scES : FnScope ["self", "value"] ["self", "value"] (defScope sES) := ⟨rfl, rfl, rfl, by decide +kernel, rfl, by decide +kernel, by decide +kernel⟩
section
variable {P : Program} {w : World} {K : PySem.W.Frag} {mg : Str → Option Value} {base : Heap}
theorem ok_eN {C f : Addr} {fd : FuncData} (F : Fun K "__init__" "BadName.__init__" sEN f fd) (O : OneE K mg "BadName" "name" C f fd) : FnOk P w K mg base CX0 1 f fd ["self", "name"] (spOneE C "name") := by
  refine F.ok scEN (fun vs H Q E h => ?_) (fun cdv A outer s H vs Q E hr h => ?_)
  · obtain ⟨a, v, rfl, _⟩ := h
    rfl
  · obtain ⟨a, v, rfl, ha, q⟩ := h
    exact ⟨_, pss_one (ps_ost (pv 0) (pv 1)), _, rfl, _, rfl, a, C, rfl, O.T, O.no, .inl ⟨ha, fun dx h n => q dx h n⟩⟩
theorem ok_eM {C f : Addr} {fd : FuncData} (F : Fun K "__init__" "BadMoment.__init__" sEM f fd) (O : OneE K mg "BadMoment" "moment" C f fd) : FnOk P w K mg base CX0 1 f fd ["self", "moment"] (spOneE C "moment") := by
  refine F.ok scEM (fun vs H Q E h => ?_) (fun cdv A outer s H vs Q E hr h => ?_)
  · obtain ⟨a, v, rfl, _⟩ := h
    rfl
  · obtain ⟨a, v, rfl, ha, q⟩ := h
    exact ⟨_, pss_one (ps_ost (pv 0) (pv 1)), _, rfl, _, rfl, a, C, rfl, O.T, O.no, .inl ⟨ha, fun dx h n => q dx h n⟩⟩
theorem ok_eS {C f : Addr} {fd : FuncData} (F : Fun K "__init__" "BadSaying.__init__" sES f fd) (O : OneE K mg "BadSaying" "value" C f fd) : FnOk P w K mg base CX0 1 f fd ["self", "value"] (spOneE C "value") := by
  refine F.ok scES (fun vs H Q E h => ?_) (fun cdv A outer s H vs Q E hr h => ?_)
  · obtain ⟨a, v, rfl, _⟩ := h
    rfl
  · obtain ⟨a, v, rfl, ha, q⟩ := h
    exact ⟨_, pss_one (ps_ost (pv 0) (pv 1)), _, rfl, _, rfl, a, C, rfl, O.T, O.no, .inl ⟨ha, fun dx h n => q dx h n⟩⟩
/-- the three errors of arguments -/
structure Errs (K : PySem.W.Frag) (mg : Str → Option Value) (CN CM CS : Addr) : Prop where
  n : ∃ (f : Addr) (fd : FuncData), OneE K mg "BadName" "name" CN f fd ∧ Fun K "__init__" "BadName.__init__" sEN f fd
  m : ∃ (f : Addr) (fd : FuncData), OneE K mg "BadMoment" "moment" CM f fd ∧ Fun K "__init__" "BadMoment.__init__" sEM f fd
  s : ∃ (f : Addr) (fd : FuncData), OneE K mg "BadSaying" "value" CS f fd ∧ Fun K "__init__" "BadSaying.__init__" sES f fd
/-- the forms: whether a value has it, the class and the field of the error where not -/
def Form (CN CM CS : Addr) (form : Str) (v : V) (ok : Bool) (C : Addr) (fl : Str) : Prop :=
  (form = "name" ∧ ok = gNam v ∧ C = CN ∧ fl = "name") ∨ (form = "moment" ∧ ok = gMom v ∧ C = CM ∧ fl = "moment") ∨ (form = "truth" ∧ ok = gTru v ∧ C = CS ∧ fl = "value")
theorem notS {a b : Str} (h : a ≠ b) : ¬ (decide (V.str a = V.str b) = true) := fun e => h (V.str.inj (of_decide_eq_true e))
def spCheck (CN CM CS : Addr) : Sp := fun vs H Q E => ∃ (v : V) (T : String) (form : Str) (ok : Bool) (C : Addr) (fl : Str), vs = [v, .str form] ∧ Gv H v T ∧ Form CN CM CS form v ok C fl ∧
  (ok = true → ∀ H', Same H H' → Q .non H') ∧ (ok = false → ∀ d H', Same H H' → H' d = some (.xd [(fl, v)]) → E (.ref C) (some d) H')
theorem ok_check {CN CM CS f fM fN : Addr} {fd fdM fdN : FuncData} (F : Fun K "check_form" "check_form" sCheck f fd) (W : Words K mg) (R : Errs K mg CN CM CS) (FM : Fun K "is_moment" "is_moment" sMoment fM fdM) (bM : Binds K fdM ["value"] []) (gM : mg "is_moment" = some (.ref fM))
    (GM : FnOk P w K mg base CX0 2 fM fdM ["value"] spMoment) (FN : Fun K "is_name" "is_name" sName fN fdN) (bN : Binds K fdN ["value"] []) (gN : mg "is_name" = some (.ref fN)) (GN : FnOk P w K mg base CX0 1 fN fdN ["value"] spName) :
    FnOk P w K mg base (L2.CX P w) 3 f fd ["value", "form"] (spCheck CN CM CS) := by
  obtain ⟨f1, fd1, O1, F1⟩ := R.n
  obtain ⟨f2, fd2, O2, F2⟩ := R.m
  obtain ⟨f3, fd3, O3, F3⟩ := R.s
  have G1 : FnOk P w K mg base CX0 1 f1 fd1 ["self", "name"] (spOneE CN "name") := ok_eN F1 O1
  have G2 : FnOk P w K mg base CX0 1 f2 fd2 ["self", "moment"] (spOneE CM "moment") := ok_eM F2 O2
  have G3 : FnOk P w K mg base CX0 1 f3 fd3 ["self", "value"] (spOneE CS "value") := ok_eS F3 O3
  refine F.okX scCheck (fun vs H Q E h => ?_) (fun cdv A outer s H vs Q E hr h => ?_)
  · obtain ⟨v, T, form, ok, C, fl, rfl, _⟩ := h
    rfl
  · obtain ⟨v, T, form, ok, C, fl, rfl, hv, hf, qy, qn⟩ := h
    have hr1 : Room 1 _ := hr.mono (by decide)
    refine ⟨_, pss_cons (ps_if (PW.pt (pw_and (pt_cmpR op_eq (pv 1) pe_str (nomark _)) (pw_and1 (pt_not (pt_val (pe_call GN hr1 (by rfl) gN FN.kp bN .nil pass0 (pa_cons (pv 0) pa_nil))))))) (pss_one (ps_raiseOne O1 G1 rfl hr (takes_of rfl rfl rfl rfl) (by rfl) (pa_cons (pv 0) pa_nil))) pss_nil)
      (pss_cons (ps_if (PW.pt (pw_and (pt_cmpR op_eq (pv 1) pe_str (nomark _)) (pw_and1 (pt_not (pt_val (pe_call GM hr (by rfl) gM FM.kp bM .nil pass0 (pa_cons (pv 0) pa_nil))))))) (pss_one (ps_raiseOne O2 G2 rfl hr (takes_of rfl rfl rfl rfl) (by rfl) (pa_cons (pv 0) pa_nil))) pss_nil)
      (pss_cons (ps_if (PW.pt (pw_and (pt_cmpR op_eq (pv 1) pe_str (nomark _)) (pw_and1 (pt_not (PW.pt (pw_and (pt_val (pe_call GM hr (by rfl) gM FM.kp bM .nil pass0 (pa_cons (pv 0) pa_nil))) (pw_and1 (pt_cmpR op_gt (pv 0) pe_int (nomark _))))))))) (pss_one (ps_raiseOne O2 G2 rfl hr (takes_of rfl rfl rfl rfl) (by rfl) (pa_cons (pv 0) pa_nil))) pss_nil)
      (pss_one (ps_if (PW.pt (pw_and (pt_cmpR op_eq (pv 1) pe_str (nomark _)) (pw_and1 (pt_not (pt_val (pe_callB call_isi (by rfl) W.isi (by decide +kernel) (pa_cons (pv 0) (pa_cons (pe_bltn (v := .ty "bool") (by rfl) W.bool (by decide +kernel) rfl) pa_nil))))))))
        (pss_one (ps_raiseOne O3 G3 rfl hr (takes_of rfl rfl rfl rfl) (by rfl) (pa_cons (pv 0) pa_nil))) pss_nil)))), ?_⟩
    rcases hf with ⟨rfl, rfl, rfl, rfl⟩ | ⟨rfl, rfl, rfl, rfl⟩ | ⟨rfl, rfl, rfl, rfl⟩
    · refine ⟨_, rfl, rfl, _, rfl, ite2 (fun _ => ?_) (fun e => absurd (decide_eq_true rfl) e)⟩
      refine ⟨_, rfl, v, T, rfl, hv, fun H1 s1 => ⟨_, rfl, ?_⟩⟩
      cases hg : gNam v with
      | true =>
        refine iteF ?_
        refine ⟨_, rfl, rfl, _, rfl, ite2 (fun e => absurd e (notS (by decide +kernel))) (fun _ => ?_)⟩
        refine ⟨_, rfl, rfl, _, rfl, ite2 (fun e => absurd e (notS (by decide +kernel))) (fun _ => ?_)⟩
        refine ⟨_, rfl, rfl, _, rfl, ite2 (fun e => absurd e (notS (by decide +kernel))) (fun _ => ?_)⟩
        exact qy hg H1 s1
      | false =>
        refine iteT ?_
        exact ⟨_, rfl, mkOne rfl fun d H' s2 _ e => qn hg d H' (s1.trans s2) e⟩
    · refine ⟨_, rfl, rfl, _, rfl, ite2 (fun e => absurd e (notS (by decide +kernel))) (fun _ => ?_)⟩
      refine ⟨_, rfl, rfl, _, rfl, ite2 (fun _ => ?_) (fun e => absurd (decide_eq_true rfl) e)⟩
      refine ⟨_, rfl, v, T, rfl, hv, _, rfl, ?_⟩
      cases hg : gMom v with
      | true =>
        refine iteF ?_
        refine ⟨_, rfl, rfl, _, rfl, ite2 (fun e => absurd e (notS (by decide +kernel))) (fun _ => ?_)⟩
        refine ⟨_, rfl, rfl, _, rfl, ite2 (fun e => absurd e (notS (by decide +kernel))) (fun _ => ?_)⟩
        exact qy hg H (Same.refl H)
      | false =>
        refine iteT ?_
        exact ⟨_, rfl, mkOne rfl fun d H' s2 _ e => qn hg d H' s2 e⟩
    · refine ⟨_, rfl, rfl, _, rfl, ite2 (fun e => absurd e (notS (by decide +kernel))) (fun _ => ?_)⟩
      refine ⟨_, rfl, rfl, _, rfl, ite2 (fun e => absurd e (notS (by decide +kernel))) (fun _ => ?_)⟩
      refine ⟨_, rfl, rfl, _, rfl, ite2 (fun e => absurd e (notS (by decide +kernel))) (fun _ => ?_)⟩
      refine ⟨_, rfl, rfl, _, rfl, ite2 (fun _ => ?_) (fun e => absurd (decide_eq_true rfl) e)⟩
      refine ⟨_, rfl, _, _, _, _, _, rfl, .ty "bool", hv.ty, hv.kit "bool" (.inr (.inl rfl)), _, rfl, ?_⟩
      have no : gTru v = false → tMkO C (spOneE C "value") [] (tCons (tVar 0) tNil) [some v, some (.str "truth")] H fun cls d H' => E cls d H' := fun e =>
        ⟨_, rfl, mkOne rfl fun d H' s2 _ e2 => qn e d H' s2 e2⟩
      cases hv with
      | bl b => exact iteF (qy rfl H (Same.refl H))
      | non => exact iteT (no rfl)
      | int i => exact iteT (no rfl)
      | str z h => exact iteT (no rfl)
      | lst e => exact iteT (no rfl)
      | tup e => exact iteT (no rfl)
      | dK e => exact iteT (no rfl)
end
end K81

namespace K81
open PySem PySem.Spec PyProof.Rows L2 So
abbrev sInit : Stmt := inClass (topS 51) 0
abbrev sEq : Stmt := inClass (topS 51) 5
abbrev sStr : Stmt := inClass (topS 51) 7
theorem scInit : FnScope ["self", "tool", "moment", "by"] ["self", "tool", "moment", "by"] (defScope sInit) := ⟨rfl, rfl, rfl, by decide +kernel, rfl, by decide +kernel, by decide +kernel⟩
theorem scEq : FnScope ["self", "other"] ["self", "other"] (defScope sEq) := ⟨rfl, rfl, rfl, by decide +kernel, rfl, by decide +kernel, by decide +kernel⟩
theorem scStr : FnScope ["self"] ["self"] (defScope sStr) := ⟨rfl, rfl, rfl, by decide +kernel, rfl, by decide +kernel, by decide +kernel⟩
/-- the attributes of an entry -/
def sfV (t m b : V) : List (Str × V) := [("tool", t), ("moment", m), ("by", b)]
theorem sfV_put (t m b : V) : putF "by" b (putF "moment" m (putF "tool" t [])) = sfV t m b := by
  have e1 : ¬ (("tool" : Str) = "moment") := by decide +kernel
  have e2 : ¬ (("tool" : Str) = "by") := by decide +kernel
  have e3 : ¬ (("moment" : Str) = "by") := by decide +kernel
  simp [putF, sfV, e1, e2, e3]
theorem sf_tool (t m b : V) : (sfV t m b).lookup ("tool" : Str) = some t := by
  simp [sfV, List.lookup]
theorem sf_moment (t m b : V) : (sfV t m b).lookup ("moment" : Str) = some m := by
  have e1 : (("moment" : Str) == "tool") = false := by decide +kernel
  simp [sfV, List.lookup, e1]
theorem sf_by (t m b : V) : (sfV t m b).lookup ("by" : Str) = some b := by
  have e1 : (("by" : Str) == "tool") = false := by decide +kernel
  have e2 : (("by" : Str) == "moment") = false := by decide +kernel
  simp [sfV, List.lookup, e1, e2]
/-- what the top says of the class Entry, at C -/
structure Ent (K : PySem.W.Frag) (mg : Str → Option Value) (C : Addr) : Prop where
  cl : Cls K C
  nT : NoAttr K C "tool"
  nM : NoAttr K C "moment"
  nB : NoAttr K C "by"
  mgC : mg "Entry" = some (.ref C)
  ha : PySem.W.findIn K (.ref C) "__class__" = some (some (.builtin "object.__class__"))
  hn : PySem.W.specialIn K (.builtin "object.__class__") "__get__" = some (some (.builtin "getset_descriptor.__get__"))
  htk : PySem.W.takesIn K (.builtin "object.__class__") = some true
  hm : PySem.W.mroIn K C (.type "object") = some true
  me : PySem.W.kitOne K (.ref C) (.ref C) = some true
/-- at a stands the entry (z, m, y) -/
def At (C : Addr) (H : Hp) (a : Addr) (z : Str) (m : Int) (y : Str) : Prop := ∃ dx, H a = some (.ins C dx (sfV (.str z) (.int m) (.str y)))
section
variable {P : Program} {w : World} {K : PySem.W.Frag} {mg : Str → Option Value} {base : Heap}
/-- the first argument that is none: its error's class, the field, the value -/
def bad3 (CN CM : Addr) (t m b : V) : Option (Addr × Str × V) :=
  if gNam t = true then (if gMom m = true then (if gNam b = true then none else some (CN, "name", b)) else some (CM, "moment", m)) else some (CN, "name", t)
theorem passNo {X : Cx} {P : Program} {w : World} : Passes (L2.CX P w) X (fun _ _ _ => False) := fun _ _ _ _ _ _ _ h => by
  obtain ⟨_, _, _, _, _, _, _, _, _, _, _, _, hE⟩ := h
  exact hE.elim
/-- both ways out of what makes a saying of these arguments -/
def Ways (CN CM : Addr) (t m b : V) (H : Hp) (E : XK) (q : Prop) : Prop :=
  (bad3 CN CM t m b = none → q) ∧ ∀ C fl v, bad3 CN CM t m b = some (C, fl, v) → ∀ d H', Same H H' → H' d = some (.xd [(fl, v)]) → E (.ref C) (some d) H'

def spInit (CN CM C : Addr) : Sp := fun vs H Q E => ∃ (x dx : Addr) (t m b : V) (T1 T2 T3 : String), vs = [.ref x, t, m, b] ∧ H x = some (.ins C dx []) ∧ Gv H t T1 ∧ Gv H m T2 ∧ Gv H b T3 ∧
  Ways CN CM t m b H E (∀ H', Off x H H' → H' x = some (.ins C dx (sfV t m b)) → Q .non H')
theorem ok_init {CN CM CS f C fC : Addr} {fd fdC : FuncData} (F : Fun K "__init__" "Entry.__init__" sInit f fd) (T : Ent K mg C) (FC : Fun K "check_form" "check_form" sCheck fC fdC) (bC : Binds K fdC ["value", "form"] []) (gC : mg "check_form" = some (.ref fC))
    (GC : FnOk P w K mg base (L2.CX P w) 3 fC fdC ["value", "form"] (spCheck CN CM CS)) : FnOk P w K mg base (L2.CX P w) 4 f fd ["self", "tool", "moment", "by"] (spInit CN CM C) := by
  refine F.okX scInit (fun vs H Q E h => ?_) (fun cdv A outer s H vs Q E hr h => ?_)
  · obtain ⟨x, dx, t, m, b, T1, T2, T3, rfl, _⟩ := h
    rfl
  · obtain ⟨x, dx, t, m, b, T1, T2, T3, rfl, hx, v1, v2, v3, qy, qn⟩ := h
    have ps : ∀ σ : L2.St, True := fun _ => trivial
    refine ⟨_, pss_cons (ps_expr (pe_call GC hr (by rfl) gC FC.kp bC .nil (passes_call (takes_of rfl rfl rfl rfl) (fun _ _ _ _ h => h)) (pa_cons (pv 1) (pa_cons pe_str pa_nil))))
      (pss_cons (ps_expr (pe_call GC hr (by rfl) gC FC.kp bC .nil (passes_call (takes_of rfl rfl rfl rfl) (fun _ _ _ _ h => h)) (pa_cons (pv 2) (pa_cons pe_str pa_nil))))
      (pss_cons (ps_expr (pe_call GC hr (by rfl) gC FC.kp bC .nil (passes_call (takes_of rfl rfl rfl rfl) (fun _ _ _ _ h => h)) (pa_cons (pv 3) (pa_cons pe_str pa_nil))))
      (pss_cons (ps_fld (pv 0) (pv 1) rfl) (pss_cons (ps_fld (pv 0) (pv 2) rfl) (pss_one (ps_fld (pv 0) (pv 3) rfl)))))), ?_⟩
    refine ⟨_, rfl, t, T1, _, _, _, _, rfl, v1, .inl ⟨rfl, rfl, rfl, rfl⟩, fun g1 H1 s1 => ?_, fun g1 d H' s e => qn CN "name" t (by unfold bad3; rw [if_neg (by rw [g1]; exact Bool.false_ne_true)]) d H' s e⟩
    refine ⟨_, rfl, m, T2, _, _, _, _, rfl, v2.same s1, .inr (.inl ⟨rfl, rfl, rfl, rfl⟩), fun g2 H2 s2 => ?_, fun g2 d H' s e => qn CM "moment" m (by unfold bad3; rw [if_pos g1, if_neg (by rw [g2]; exact Bool.false_ne_true)]) d H' (s1.trans s) e⟩
    refine ⟨_, rfl, b, T3, _, _, _, _, rfl, v3.same (s1.trans s2), .inl ⟨rfl, rfl, rfl, rfl⟩, fun g3 H3 s3 => ?_, fun g3 d H' s e => qn CN "name" b (by unfold bad3; rw [if_pos g1, if_pos g2, if_neg (by rw [g3]; exact Bool.false_ne_true)]) d H' ((s1.trans s2).trans s) e⟩
    have s123 := (s1.trans s2).trans s3
    refine ⟨_, rfl, _, rfl, x, C, dx, [], rfl, s123 _ _ hx, T.cl, T.nT, (by show 0 < 1000; decide), ?_⟩
    refine ⟨_, rfl, _, rfl, x, C, dx, _, rfl, upd_same, T.cl, T.nM, (by show 1 < 1000; decide), ?_⟩
    refine ⟨_, rfl, _, rfl, x, C, dx, _, rfl, upd_same, T.cl, T.nB, ?_, ?_⟩
    · exact Nat.lt_of_le_of_lt (length_putF _ _ _) (by show 1 + 1 < 1000; decide)
    · refine qy (by unfold bad3; rw [if_pos g1, if_pos g2, if_pos g3]) _ (fun c o n e => ?_) ?_
      · rw [upd_ne n, upd_ne n, upd_ne n]
        exact s123 c o e
      · rw [upd_same, sfV_put]
/-- behind Saying(t, m, b) -/
theorem made {CN CM CS C : Addr} {t m b : V} {T1 T2 T3 : String} {H1 : Hp} {Q : VK} {E : XK} (v1 : Gv H1 t T1) (v2 : Gv H1 m T2) (v3 : Gv H1 b T3) (h : Ways CN CM t m b H1 E (∀ (H' : Hp) (a dx : Addr), Same H1 H' → H' a = some (.ins C dx (sfV t m b)) → Q (.ref a) H')) :
    ∀ x dx, H1 x = none → H1 dx = none → dx ≠ x → spInit CN CM C (.ref x :: ([t, m, b] ++ [])) (upd (upd H1 dx (.own x)) x (.ins C dx [])) (fun v H2 => v = .non ∧ Q (.ref x) H2) E := by
  intro x dx hx hd ne
  have s0 : Same H1 (upd (upd H1 dx (.own x)) x (.ins C dx [])) := fun c o e => by
    rw [upd_ne (ne_of_none e hx), upd_ne (ne_of_none e hd)]
    exact e
  refine ⟨x, dx, t, m, b, T1, T2, T3, rfl, upd_same, v1.same s0, v2.same s0, v3.same s0, fun g H' o e => ⟨rfl, h.1 g H' x dx (fun c u z => ?_) e⟩, fun C' fl v g d H' s e => h.2 C' fl v g d H' (s0.trans s) e⟩
  exact o c u (ne_of_none z hx) (s0 c u z)
theorem bad3_ok {CN CM : Addr} {z y : Str} {m : Int} (h1 : isName z = true) (h2 : 0 ≤ m ∧ m ≤ 1000000000000000000000000000000) (h3 : isName y = true) : bad3 CN CM (.str z) (.int m) (.str y) = none := by
  unfold bad3
  rw [if_pos (show gNam (.str z) = true from h1), if_pos (show gMom (.int m) = true from decide_eq_true h2), if_pos (show gNam (.str y) = true from h3)]
theorem Ways.ok {CN CM : Addr} {z y : Str} {m : Int} {H : Hp} {E : XK} {q : Prop} (h1 : isName z = true) (h2 : 0 ≤ m ∧ m ≤ 1000000000000000000000000000000) (h3 : isName y = true) (h : q) : Ways CN CM (.str z) (.int m) (.str y) H E q :=
  ⟨fun _ => h, fun C fl v e => by
    rw [bad3_ok h1 h2 h3] at e
    cases e⟩
theorem name_len {z : Str} (h : isName z = true) : z.length ≤ 8 := by
  unfold isName at h
  simp only [Bool.and_eq_true] at h
  exact of_decide_eq_true h.1.1.1.2
theorem made1 {CN CM C x dx : Addr} {t m b : V} {T1 T2 T3 : String} {H1 : Hp} {R : Hp → Prop} {E : XK} (hx : H1 x = none) (hd : H1 dx = none) (ne : dx ≠ x) (v1 : Gv H1 t T1) (v2 : Gv H1 m T2) (v3 : Gv H1 b T3)
    (h : Ways CN CM t m b H1 E (∀ H' : Hp, Same H1 H' → H' x = some (.ins C dx (sfV t m b)) → R H')) :
    spInit CN CM C [.ref x, t, m, b] (upd (upd H1 dx (.own x)) x (.ins C dx [])) (fun v H2 => v = .non ∧ R H2) E := by
  have s0 : Same H1 (upd (upd H1 dx (.own x)) x (.ins C dx [])) := fun c o e => by
    rw [upd_ne (ne_of_none e hx), upd_ne (ne_of_none e hd)]
    exact e
  refine ⟨x, dx, t, m, b, T1, T2, T3, rfl, upd_same, v1.same s0, v2.same s0, v3.same s0, fun g H' o e => ⟨rfl, h.1 g H' (fun c u z => ?_) e⟩, fun C' fl v g d H' s e => h.2 C' fl v g d H' (s0.trans s) e⟩
  exact o c u (ne_of_none z hx) (s0 c u z)
def spEq (K : PySem.W.Frag) (C : Addr) : Sp := fun vs H Q _ => ∃ (a : Addr) (y : V) (z w : Str) (m : Int), vs = [.ref a, y] ∧ At C H a z m w ∧
  ((∃ (a' : Addr) (z' w' : Str) (m' : Int), y = .ref a' ∧ At C H a' z' m' w' ∧ Q (.bl (decide (z = z') && decide (m = m') && decide (w = w'))) H) ∨ (∃ t, TyX K H y t ∧ PySem.W.kitOne K t (.ref C) = some false ∧ Q (.bl false) H))
theorem eqStr (a b : Str) : decide (V.str a = V.str b) = decide (a = b) := by
  by_cases h : a = b
  · rw [decide_eq_true h, decide_eq_true (by rw [h])]
  · rw [decide_eq_false h, decide_eq_false (fun y => h (V.str.inj y))]
theorem eqInt (a b : Int) : decide (V.int a = V.int b) = decide (a = b) := by
  by_cases h : a = b
  · rw [decide_eq_true h, decide_eq_true (by rw [h])]
  · rw [decide_eq_false h, decide_eq_false (fun y => h (V.int.inj y))]
theorem ok_eq {f C : Addr} {fd : FuncData} (F : Fun K "__eq__" "Entry.__eq__" sEq f fd) (W : Words K mg) (T : Ent K mg C) : FnOk P w K mg base CX0 1 f fd ["self", "other"] (spEq K C) := by
  refine F.ok scEq (fun vs H Q E h => ?_) (fun cdv A outer s H vs Q E hr h => ?_)
  · obtain ⟨a, y, z, m, b, rfl, _⟩ := h
    rfl
  · obtain ⟨a, y, z, v, m, rfl, ⟨dx, ha⟩, h⟩ := h
    refine ⟨_, pss_cons (ps_if (pt_not (pt_val (pe_callB call_isi (by rfl) W.isi (by decide +kernel) (pa_cons (pv 1) (pa_cons (pe_glob (v := .ref C) rfl T.mgC rfl) pa_nil))))) (pss_one (ps_ret pe_bl)) pss_nil)
      (pss_one (ps_ret (pe_and (pe_cmpR op_eq (pe_fld (pv 0) rfl) (pe_fld (pv 1) rfl) (nomark _)) (pe_and (pe_cmpR op_eq (pe_fld (pv 0) rfl) (pe_fld (pv 1) rfl) (nomark _)) (pe_one (pe_cmpR op_eq (pe_fld (pv 0) rfl) (pe_fld (pv 1) rfl) (nomark _))))))), ?_⟩
    rcases h with ⟨a', z', v', m', rfl, ⟨dx', ha'⟩, q⟩ | ⟨t, ty, hk, q⟩
    · refine ⟨_, rfl, _, _, _, _, true, rfl, .own C, .base (.ins ha' T.cl T.ha T.hn T.htk T.hm), T.me, true, rfl, iteF ?_⟩
      refine ⟨_, rfl, a, C, dx, _, _, rfl, ha, T.cl, T.nT, sf_tool _ _ _, _, rfl, a', C, dx', _, _, rfl, ha', T.cl, T.nT, sf_tool _ _ _, rfl, _, rfl, ?_⟩
      rw [eqStr]
      cases e1 : decide (z = z') with
      | false =>
        rw [e1, Bool.false_and, Bool.false_and] at q
        exact iteF q
      | true =>
        rw [e1, Bool.true_and] at q
        refine iteT ⟨_, rfl, a, C, dx, _, _, rfl, ha, T.cl, T.nM, sf_moment _ _ _, _, rfl, a', C, dx', _, _, rfl, ha', T.cl, T.nM, sf_moment _ _ _, rfl, _, rfl, ?_⟩
        rw [eqInt]
        cases e2 : decide (m = m') with
        | false =>
          rw [e2, Bool.false_and] at q
          exact iteF q
        | true =>
          rw [e2, Bool.true_and] at q
          refine iteT ⟨_, rfl, a, C, dx, _, _, rfl, ha, T.cl, T.nB, sf_by _ _ _, _, rfl, a', C, dx', _, _, rfl, ha', T.cl, T.nB, sf_by _ _ _, rfl, ?_⟩
          rw [eqStr]
          exact q
    · refine ⟨_, rfl, _, _, _, _, false, rfl, .own C, ty, hk, false, rfl, iteT ?_⟩
      exact q
end
end K81

namespace K81
open PySem PySem.Spec PyProof.Rows L2 So
theorem cut63 (xs : List V) : cutV xs none (some 63) = xs.take 63 := by
  unfold cutV
  rw [HT.sIx_none, show HT.sIx xs.length xs.length (some 63) = min 63 xs.length from HT.sIx_nat xs.length xs.length 63]
  simp
theorem same_upd0 {H : Hp} {p : Addr} {o : HO} (h : H p = none) : Same H (upd H p o) := Same.over (Same.refl H) h
theorem same3 {H : Hp} {a b c : Addr} {o1 o2 o3 : HO} (ha : H a = none) (hb : upd H a o1 b = none) (hc : upd (upd H a o1) b o2 c = none) : Same H (upd (upd (upd H a o1) b o2) c o3) ∧ H c = none :=
  have s2 := (same_upd0 (o := o1) ha).trans (same_upd0 (o := o2) hb)
  ⟨s2.trans (same_upd0 hc), s2.free hc⟩
section
variable {P : Program} {w : World} {K : PySem.W.Frag} {mg : Str → Option Value} {base : Heap}
def spPen (K : PySem.W.Frag) : Sp := fun vs H Q _ => ∃ (a : Addr) (ns : List Int), vs = [.ref a] ∧ SqL K H a (ns.map V.int) ∧ ∀ (H' : Hp) (p l : Addr) (ns' : List Int), Same H H' → Pen H' p l ns' 0 0 → Q (.ref p) H'
theorem ok_pen {f : Addr} {fd : FuncData} (F : Fun K "_law_pen" "_law_pen" sPen f fd) (ml : mg "list" = none) : FnOk P w K mg base CX0 1 f fd ["_law_script"] (spPen K) := by
  refine F.ok scPen (fun vs H Q E h => ?_) (fun cdv A outer s H vs Q E hr h => ?_)
  · obtain ⟨a, ns, rfl, _⟩ := h
    rfl
  · obtain ⟨a, ns, rfl, hS, q⟩ := h
    refine ⟨_, pss_one (ps_ret (pe_lst (pa_cons (pe_callTy call_list_of (by rfl) ml (by decide +kernel) (pa_cons (pe_slice sl_list (pv 0) po_none (po_some pe_int)) pa_nil)) (pa_cons pe_int (pa_cons pe_int pa_nil))))), ?_⟩
    refine ⟨_, rfl, 63, rfl, a, ns.map V.int, rfl, hS, fun c hc => ?_⟩
    rw [cut63, ← List.map_take]
    refine ⟨c, _, rfl, .inl (SqL.of upd_same), fun l hl => ?_⟩
    refine ⟨by show 3 ≤ sizeLine; decide, fun p hp => ?_⟩
    have s1 : Same H (upd (upd (upd H c (.lst ((ns.take 63).map V.int))) l (.lst ((ns.take 63).map V.int))) p (.lst [.ref l, .int 0, .int 0])) := by
      refine ((same_upd0 hc).trans (same_upd0 hl)).trans (same_upd0 hp)
    have nlp : l ≠ p := fun e => by
      rw [e, upd_same] at hp
      cases hp
    exact q _ p l (ns.take 63) s1 ⟨upd_same, (upd_ne nlp).trans upd_same, Int.le_refl 0⟩
end
end K81

namespace So
open PySem PySem.Spec PyProof.Rows L2 PySem.HandSPX
section
variable {M : Model} {A : Around} {E : Value → Shared → Prop} {h : Heap} {g : Array GenState} {d : Drawn} {t : Nat} {os : OsState}
variable {nm q : Str} {C N : Addr} {bs bm bmB : List Value} {hdct : Bool} {sn : List Str} {sub : List Value} {ab : Bool} {col : Option Bool} {dd : Option Addr} {k0 k1 k2 k3 k5 : Option Value} {B newId initId : String}
theorem kw_check (F : ExcBaseFacts B newId initId bmB) (hT : ∀ X : String, bm.contains (.type X) = bmB.contains (.type X)) {kws : List (Str × Value)} {Q : Unit → Shared → Prop}
    (hC : h.get? C = some (excClassObj nm q C N bs bm hdct sn sub ab col dd k0 k1 k2 k3 k5 newId)) (hq : Q () ⟨h, g, d, t, os⟩) :
    wpAny M A (checkBuiltinCall newId ⟨[.ref C], kws⟩) Q E ⟨h, g, d, t, os⟩ := by
  have inB : (Value.ref C :: bm).contains (.type B) = true := by
    rw [List.contains_cons, hT, F.hasB, Bool.or_true]
  have stars := F.noStar
  simp only [checkBuiltinCall, F.newKind, F.newSplit, F.newRow]
  repeat (first
    | refine wpAny_loadPart_at hC ?_
    | (refine wpAny_isSubtype_exc hC ?_
       rw [inB])
    | refine wpAny_staticBase_exc hC ?_
    | refine wpAny_madeBy_exc hC ?_
    | simp only [bne_self_eq_false, Bool.false_eq_true, if_false]
    | wp_step)
  exact hq
end
section
variable {prog : Program} {w : World} {A : Around} {E : Value → Shared → Prop} {R : Result → Shared → Prop} {h : Heap} {g : Array GenState} {d : Drawn} {t : Nat} {os : OsState}
variable {nm q : Str} {C N : Addr} {bs bm bmB : List Value} {hdct : Bool} {sn : List Str} {sub : List Value} {ab : Bool} {col : Option Bool} {dd : Option Addr} {k0 k1 k2 k3 k5 : Option Value} {B newId initId : String}
theorem kw_new (F : ExcBaseFacts B newId initId bmB) (hT : ∀ X : String, bm.contains (.type X) = bmB.contains (.type X)) {kws : List (Str × Value)}
    (hC : h.get? C = some (excClassObj nm q C N bs bm hdct sn sub ab col dd k0 k1 k2 k3 k5 newId))
    (hq : R (.ok (.ret (.ref (h.objs.size + 1)))) ⟨(h.push (PySem.W.kdv_tup [])).push (excO C h.objs.size), g, d, t, os⟩) :
    codeAny (model prog w) A (.builtin newId ⟨[.ref C], kws⟩) R ⟨h, g, d, t, os⟩ := by
  have ends := F.ends
  have inB : (Value.ref C :: bm).contains (.type B) = true := by
    rw [List.contains_cons, hT, F.hasB, Bool.or_true]
  have noA : (Value.ref C :: bm).contains (.type "AttributeError") = false := by
    rw [List.contains_cons, hT, F.noAttr]
    rfl
  have noN : (Value.ref C :: bm).contains (.type "NameError") = false := by
    rw [List.contains_cons, hT, F.noName]
    rfl
  refine codeAny_builtinAt F.entry ?_
  unfold Builtin.«BaseException.__new__»
  refine PySem.wpAt_bind ?_
  show PySem.wpAt _ _ _ (stack >>= _) _ _ _
  refine PySem.wpAt_bind (PySem.wpAt_stack fun p below => ?_)
  refine PySem.wpAt_of_wpAny ?_
  wp_walk
  refine PySem.wpAt_of_wpAny ?_
  rw [F.owner]
  repeat (first
    | with_reducible refine wpAny_madeHere_exc F.canon hC ?_
    | with_reducible refine wpAny_loadPart_at hC ?_
    | (with_reducible refine wpAny_isSubtype_exc hC ?_
       first
         | rw [inB]
         | rw [noA]
         | rw [noN])
    | wp_step)
  show R _ _
  rw [Heap.size_push]
  exact hq
theorem kw_type (F : ExcBaseFacts B newId initId bmB) (hT : ∀ X : String, bm.contains (.type X) = bmB.contains (.type X)) {kws : List (Str × Value)} {fI : Addr} {Q : Fin → Shared → Prop}
    (hC : h.get? C = some (excClassObj nm q C N bs bm hdct sn sub ab col dd k0 k1 k2 k3 k5 newId))
    (hi : PySem.W.Looks (model prog w) h (typeLookup (.ref C) "__init__") (some (.ref fI))) (hb : ∀ self, PySem.W.Looks (model prog w) h (bindSpecial (.ref fI) self) (.ref fI, [self]))
    (hq : codeAny (model prog w) A (.call (.ref fI) ⟨[.ref (h.objs.size + 1)], kws⟩)
      (fun r s' => match r with | .ok (.ret v) => v = .none ∧ Q (.done (.ret (.ref (h.objs.size + 1)))) s' | .ok _ => False | .error e => E e s')
      ⟨(h.push (PySem.W.kdv_tup [])).push (excO C h.objs.size), g, d, t, os⟩) :
    wpAny (model prog w) A (Builtin.«type.__call__» ⟨[.ref C], kws⟩) Q E ⟨h, g, d, t, os⟩ := by
  repeat (first
    | with_reducible refine wpAny_loadPart_at hC ?_
    | with_reducible refine wpAny_madeBy_exc hC ?_
    | wp_step)
  refine codeAny_call_builtin_code (Code.quiet_builtin _ F.quiet) ?_
  refine kw_check F hT hC ?_
  refine kw_new F hT hC ?_
  show wpAny _ _ _ _ _ _
  have keep : ∀ b o, h.get? b = some o → ((h.push (PySem.W.kdv_tup [])).push (excO C h.objs.size)).get? b = some o := by
    intro b o e
    exact Heap.get?_push_of_some _ (Heap.get?_push_of_some _ e)
  have hC' := keep _ _ hC
  have here : ((h.push (PySem.W.kdv_tup [])).push (excO C h.objs.size)).get? (h.objs.size + 1) = some (excO C h.objs.size) := by
    heap_get
  have self : (Value.ref C :: bm).contains (.ref C) = true := by simp
  have look := hi.keeps keep
  have bind := (hb (.ref (h.objs.size + 1))).keeps keep
  unfold isInstance
  repeat (first
    | with_reducible refine wpAny_loadPart_at here ?_
    | (with_reducible refine wpAny_isSubtype_exc hC' ?_
       rw [self])
    | wp_step)
  show wpAny _ _ (typeLookup (.ref C) _) _ _ _
  refine look.at ?_
  refine wpAny_holding (wpAny_bind (bind.at ?_))
  refine wpAny_bind (wpAny_call (codeAny_mono hq fun r s' z => ?_))
  match r, z with
  | .error e, z => exact z
  | .ok .next, z => exact z.elim
  | .ok .brk, z => exact z.elim
  | .ok .cont, z => exact z.elim
  | .ok (.ret v), z =>
    obtain ⟨e, z⟩ := z
    subst e
    first
      | exact wpAny_pure (wpAny_pure z)
      | (wp_walk
         exact z)
theorem kw_checkT {kws : List (Str × Value)} {Q : Unit → Shared → Prop} (hC : h.get? C = some (excClassObj nm q C N bs bm hdct sn sub ab col dd k0 k1 k2 k3 k5 newId)) (hq : Q () ⟨h, g, d, t, os⟩) :
    wpAny (model prog w) A (checkBuiltinCall "type.__call__" ⟨[.ref C], kws⟩) Q (fun e s' => E e s') ⟨h, g, d, t, os⟩ := by
  have f3 := tc_sub
  have ty : (⟨h, g, d, t, os⟩ : Shared).TypeIs (.ref C) "type" := ⟨_, hC, rfl⟩
  simp only [checkBuiltinCall, tc_kind, tc_split]
  repeat (any_goals (first
    | assumption
    | with_reducible refine wpAny_loadPart_at hC ?_
    | with_reducible refine wpAny_onRaise ?_
    | with_reducible refine wpAny_map ?_
    | wp_step))
theorem kw_call (F : ExcBaseFacts B newId initId bmB) (hT : ∀ X : String, bm.contains (.type X) = bmB.contains (.type X)) {kws : List (Str × Value)} {fI : Addr}
    (hC : h.get? C = some (excClassObj nm q C N bs bm hdct sn sub ab col dd k0 k1 k2 k3 k5 newId))
    (hi : PySem.W.Looks (model prog w) h (typeLookup (.ref C) "__init__") (some (.ref fI))) (hb : ∀ self, PySem.W.Looks (model prog w) h (bindSpecial (.ref fI) self) (.ref fI, [self]))
    (hq : codeAny (model prog w) (A.under (.builtin "type.__call__" ⟨[.ref C], kws⟩)) (.call (.ref fI) ⟨[.ref (h.objs.size + 1)], kws⟩) (PySem.W.InitBack (h.objs.size + 1) R)
      ⟨(h.push (PySem.W.kdv_tup [])).push (excO C h.objs.size), g, d, t, os⟩) :
    codeAny (model prog w) A (.call (.ref C) ⟨[], kws⟩) R ⟨h, g, d, t, os⟩ := by
  have lk := tc_lookup
  have bd := tc_bind (.ref C)
  have ty : (⟨h, g, d, t, os⟩ : Shared).TypeIs (.ref C) "type" := ⟨_, hC, rfl⟩
  refine codeAny_of_tree ?_
  show wpAny _ _ (callAny (.ref C) _) _ _ _
  repeat (any_goals (first
    | assumption
    | with_reducible refine wpAny_loadPart_at hC ?_
    | wp_step))
  refine ⟨rfl, ?_⟩
  refine codeAny_call_builtin_at (Code.quiet_builtin _ (by decide +kernel)) entry_typeCall ?_
  refine kw_checkT hC ?_
  refine kw_type F hT hC hi hb ?_
  refine codeAny_mono hq fun r s' z => ?_
  match r, z with
  | .error e, z => exact z
  | .ok (.ret v), z => exact z
  | .ok .next, z => exact z
  | .ok .brk, z => exact z
  | .ok .cont, z => exact z
end
end So

namespace So
open PySem PySem.Spec PyProof.Rows L2
/-- C(k = v, ..), C's own __init__ keeping sp -/
def tMkK (C : Addr) (n : Nat) (sp : Sp) (gV : List V → List V → List V) (tk : TA) : L2.St → Hp → XK → Prop := fun σ H Q => tk σ H fun zs H1 => zs.length = n ∧ ∀ a, H1 a = none → sp (gV [.ref a] zs) (upd H1 a (exo a C none))
  (fun v H2 => v = .non ∧ ∃ (d : Addr) (fs : List (Str × V)), H2 a = some (exo a C (some d)) ∧ H2 d = some (exd d fs) ∧ H1 d = none ∧ Q (.ref C) (some d) (upd (del H2 a) d (.xd fs))) (fun _ _ _ => False)
section
variable {X : Cx} {CX : CXT} {x : Str} {C fI : Addr} {k : Nat} {fd : FuncData} {ps ks : List Str} {sp : Sp} {g : List Value → List Value → List Value} {gV : List V → List V → List V} {kws : List Keyword} {tk : TA} {p pos : Pos}
theorem pmk_oexK (T : OexC X.K C) (iC : PySem.W.findIn X.K (.ref C) "__init__" = some (some (.ref fI))) (tI : PySem.W.typeIn X.K (.ref fI) = some (.type "function")) (F1 : FnOk X.prog X.w X.K X.mg X.base CX k fI fd ps sp) (hr : Room (k + 1) X.A) (hb : KBn X.K fd ps 1 ks g gV)
    (hx : Passes CX X (fun _ _ _ => False)) (hg : Gl X x) (hm : X.mg x = some (.ref C)) (hkw : PK X kws tk)
    (hall : (backToKw pos (keywordEach kws X.env)).all (·.1.isSome) = true := by rfl) (hks : (backToKw pos (keywordEach kws X.env)).filterMap (·.1) = ks := by rfl) (hdb : (x == ("__debug__" : Str)) = false := by decide)
    (hpl : ((backTo pos (starEach [] X.env)).any (·.1) || (backToKw pos (keywordEach kws X.env)).any (·.1.isNone)) = false := by rfl) :
    PMk X (.Call (.Name x p) [] kws pos) (tMkK C ks.length sp gV tk) := by
  intro pins s σ H Q I h
  obtain ⟨nm, q, N, bs, bm, sn, sub, ab, col, dd, k0, k1, k2, k3, k5, hC, hbm⟩ := T.cls
  refine wpAny_Call_Name_kw (ld_glob I hg hm ?_ hdb)
  refine PySem.W.callWith_KW0 (h₀ := X.base) I.ok.mod.kin T.kC hall ?_ hpl
  refine thn (hkw.run pos pins s σ H _ I h) fun ws s1 z => ?_
  obtain ⟨zs, H1, I1, rz, hz, q1⟩ := z
  refine ⟨I1.kIn, ?_⟩
  rw [hks]
  show wpAny _ _ (call (.ref C) [] (ks.zip ws)) _ _ _
  obtain ⟨hp, g', dr, tk', os⟩ := s1
  have big : hp.objs.size ≤ hp.objs.size + 1 := Nat.le_succ _
  have fresh : H1 (hp.objs.size + 1) = none := I1.hok.fresh big
  have hq := q1 _ fresh
  have keep : ∀ b o, hp.get? b = some o → ((hp.push (PySem.W.kdv_tup [])).push (PySem.HandSPX.excO C hp.objs.size)).get? b = some o := by
    intro b o e
    exact Heap.get?_push_of_some _ (Heap.get?_push_of_some _ e)
  have here : ((hp.push (PySem.W.kdv_tup [])).push (PySem.HandSPX.excO C hp.objs.size)).get? (hp.objs.size + 1) = some (PySem.HandSPX.excO C hp.objs.size) := by
    heap_get
  have I2 : Inv X pins σ (upd H1 (hp.objs.size + 1) (exo (hp.objs.size + 1) C none)) ⟨(hp.push (PySem.W.kdv_tup [])).push (PySem.HandSPX.excO C hp.objs.size), g', dr, tk', os⟩ :=
    I1.laid (t' := tk') (o := exo (hp.objs.size + 1) C none) keep big (exo_ok here)
  have r1 : Vals [V.ref (hp.objs.size + 1)] [Value.ref (hp.objs.size + 1)] := .cons rfl .nil
  refine wpAny_call (kw_call F.excBase_ValueError (fun Y => PySem.HandSPX.refsVE_contains Y bm hbm) (I1.kIn _ _ hC) (PySem.W.looks_findIn I1.kIn iC) (fun self => PySem.W.bind_fn I1.kIn self tI)
    (codeAny_mono (F1.run _ X.stack _ _ ⟨[.ref (hp.objs.size + 1)], ks.zip ws⟩ (g [.ref (hp.objs.size + 1)] ws) _ _ (fun _ _ _ => False) (hr.make C [] (ks.zip ws)) (I2.env0.make C [] (ks.zip ws))
      (hb.to _ [.ref (hp.objs.size + 1)] ws I2.kIn rfl (rz.length.symm.trans hz)) (hb.rel r1 rz) hq) fun r s' hq' => ?_))
  match r, hq' with
  | .error er, hq' => exact hx pins σ _ _ er s' I2 hq'
  | .ok .next, hq' => exact hq'.elim
  | .ok .brk, hq' => exact hq'.elim
  | .ok .cont, hq' => exact hq'.elim
  | .ok (.ret u), hq' =>
    obtain ⟨v, H2, os2, bare2, un2, hok2, rv, ev, d, fs, ea, ed, hd1, q2⟩ := hq'
    subst ev
    obtain ⟨h2, g2, d2, t2, os'⟩ := s'
    exact ⟨rv, mk_end (raises_own T.exC T.tyC) I1 big keep un2 hok2 os2 bare2 ea ed hd1 q2⟩
/-- an exception that is made and kept, not raised -/
theorem pe_ofMk {e : Expr} {t : L2.St → Hp → XK → Prop} (hex : X.ex = []) (h : PMk X e t) : PE X e (fun σ H Q => t σ H fun cls d H' => ∀ a, H' a = none → Q (.ref a) (upd H' a (Xo cls d a))) := by
  refine ⟨fun pins s σ H Q I w => ?_⟩
  refine thn (h pins s σ H _ I w) fun u s' z => ?_
  obtain ⟨a, oe, fv, sI, H', cls, d, rfl, J, k, na, he, hz, hd, h1, nH, ho, hb, _, q⟩ := z
  have K := J.kept (t' := s'.toks) (h' := s'.heap) k
  have I' : Inv X pins σ H' s' := ⟨K.ok, ho.trans J.os, hb, K.base, K.loc, K.cell, K.free, K.freeC, K.pin, K.hok, K.len⟩
  have nL : a ≠ X.env.locals := fun z => by
    obtain ⟨m, hn, _⟩ := J.loc
    obtain ⟨o, es, ep, e, _⟩ := hn
    rw [← z, na] at e
    cases e
  exact ⟨.ref a, _, track J hex na I' he hz hd nH nL, rfl, q a nH⟩
end
end So

namespace So
open PySem PySem.Spec PyProof.Rows L2
theorem overS {H H1 : Hp} {D : Addr} {o : HO} (s : Same H H1) (h : H1 D = none) : Same H (upd H1 D o) := fun b u e => (upd_ne (ne_of_none (s b u e) h)).trans (s b u e)
/-! ### errors with two fields -/
def spTwoE (C : Addr) (n1 n2 : Str) : Sp := fun vs H Q _ => ∃ (a : Addr) (v1 v2 : V), vs = [.ref a, v1, v2] ∧ H a = some (exo a C none) ∧ ∀ dx, H dx = none → dx ≠ a → Q .non (upd (upd (upd H dx (exd dx [(n1, v1)])) a (exo a C (some dx))) dx (exd dx [(n2, v2), (n1, v1)]))
section
variable {P : Program} {w : World} {K : PySem.W.Frag} {mg : Str → Option Value} {base : Heap}
theorem ok_one {n qual : Str} {st : Stmt} {C f : Addr} {fd : FuncData} (F : Fun K "__init__" qual st f fd) (T : OexC K C) (no : PySem.W.findIn K (.ref C) n = some none) (S : FnScope ["self", n] ["self", n] (defScope st))
    (hb : ∃ p1 p2 p3 p4, defBody st = [.Assign [.Attribute (.Name "self" p1) n p2] (.Name n p3) p4]) (h1 : (n == ("__debug__" : Str)) = false) (h2 : (n == ("__classdict__" : Str)) = false) :
    FnOk P w K mg base CX0 1 f fd ["self", n] (spOneE C n) := by
  obtain ⟨p1, p2, p3, p4, hb⟩ := hb
  refine F.ok S (fun vs H Q E h => ?_) (fun cdv A outer s H vs Q E hr h => ?_)
  · obtain ⟨a, v, rfl, _⟩ := h
    rfl
  · obtain ⟨a, v, rfl, ha, q⟩ := h
    rw [hb]
    have vs0 : Vis (defScope st) "self" := vis_par S (by simp)
    have vs1 : Vis (defScope st) n := vis_par S (by simp)
    exact ⟨_, pss_one (ps_ost (pe_var (i := 0) rfl vs0) (pe_var (i := 1) rfl vs1 h1 h2)), _, rfl, _, rfl, a, C, rfl, T, no, .inl ⟨ha, fun dx h n => q dx h n⟩⟩
theorem ok_two {n1 n2 qual : Str} {st : Stmt} {C f : Addr} {fd : FuncData} (F : Fun K "__init__" qual st f fd) (T : OexC K C) (no1 : PySem.W.findIn K (.ref C) n1 = some none) (no2 : PySem.W.findIn K (.ref C) n2 = some none) (S : FnScope ["self", n1, n2] ["self", n1, n2] (defScope st))
    (hb : ∃ p1 p2 p3 p4 q1 q2 q3 q4, defBody st = [.Assign [.Attribute (.Name "self" p1) n1 p2] (.Name n1 p3) p4, .Assign [.Attribute (.Name "self" q1) n2 q2] (.Name n2 q3) q4]) (h1 : (n1 == ("__debug__" : Str)) = false) (h2 : (n1 == ("__classdict__" : Str)) = false)
    (h3 : (n2 == ("__debug__" : Str)) = false) (h4 : (n2 == ("__classdict__" : Str)) = false) : FnOk P w K mg base CX0 1 f fd ["self", n1, n2] (spTwoE C n1 n2) := by
  obtain ⟨p1, p2, p3, p4, q1, q2, q3, q4, hb⟩ := hb
  refine F.ok S (fun vs H Q E h => ?_) (fun cdv A outer s H vs Q E hr h => ?_)
  · obtain ⟨a, v1, v2, rfl, _⟩ := h
    rfl
  · obtain ⟨a, v1, v2, rfl, ha, q⟩ := h
    rw [hb]
    have vs0 : Vis (defScope st) "self" := vis_par S (by simp)
    have vs1 : Vis (defScope st) n1 := vis_par S (by simp)
    have vs2 : Vis (defScope st) n2 := vis_par S (by simp)
    refine ⟨_, pss_cons (ps_ost (pe_var (i := 0) rfl vs0) (pe_var (i := 1) rfl vs1 h1 h2)) (pss_one (ps_ost (pe_var (i := 0) rfl vs0) (pe_var (i := 2) rfl vs2 h3 h4))), ?_⟩
    refine ⟨_, rfl, _, rfl, a, C, rfl, T, no1, .inl ⟨ha, fun dx hd ne => ?_⟩⟩
    refine ⟨_, rfl, _, rfl, a, C, rfl, T, no2, .inr ⟨dx, [(n1, v1)], upd_same, ?_, by show 1 ≤ 900; decide, q dx hd ne⟩⟩
    rw [upd_ne ne, upd_same]
end
/-- behind C(v1, v2) -/
theorem mkTwo {C : Addr} {n1 n2 : Str} {v1 v2 : V} {H1 : Hp} {Q : XK} (h : ∀ d H', Same H1 H' → H1 d = none → H' d = some (.xd [(n2, v2), (n1, v1)]) → Q (.ref C) (some d) H') :
    ∀ a, H1 a = none → spTwoE C n1 n2 [.ref a, v1, v2] (upd H1 a (exo a C none))
      (fun v H2 => v = .non ∧ ∃ (d : Addr) (fs : List (Str × V)), H2 a = some (exo a C (some d)) ∧ H2 d = some (exd d fs) ∧ H1 d = none ∧ Q (.ref C) (some d) (upd (del H2 a) d (.xd fs))) (fun _ _ _ => False) := by
  refine fun a ha => ⟨a, v1, v2, rfl, upd_same, fun dx hdx ne => ?_⟩
  have hd : H1 dx = none := by
    rw [upd_ne ne] at hdx
    exact hdx
  refine ⟨rfl, dx, [(n2, v2), (n1, v1)], ?_, upd_same, hd, h dx _ (fun b o hb => ?_) hd upd_same⟩
  · rw [upd_ne ne.symm, upd_same]
  · have hba : b ≠ a := ne_of_none hb ha
    have hbd : b ≠ dx := ne_of_none hb hd
    rw [upd_ne hbd, del_ne hba, upd_ne hbd, upd_ne hba, upd_ne hbd, upd_ne hba]
    exact hb
/-- a kept error with its fields -/
def ErAt (H : Hp) (a C : Addr) (fs : List (Str × V)) : Prop := ∃ d, H a = some (Xo (.ref C) (some d) a) ∧ H d = some (.xd fs)
theorem ErAt.same {H H' : Hp} {a C : Addr} {fs : List (Str × V)} (h : ErAt H a C fs) (s : Same H H') : ErAt H' a C fs := h.elim fun d e => ⟨d, s _ _ e.1, s _ _ e.2⟩
/-- what is wished behind an error that is made and kept -/
theorem keepOne {C : Addr} {fs : List (Str × V)} {H1 : Hp} {Q : VK} (h : ∀ a H', Same H1 H' → ErAt H' a C fs → Q (.ref a) H') :
    ∀ d H', Same H1 H' → H1 d = none → H' d = some (.xd fs) → ∀ a, H' a = none → Q (.ref a) (upd H' a (Xo (.ref C) (some d) a)) := by
  intro d H' s _ e a na
  exact h a _ (overS s na) ⟨d, upd_same, (upd_ne (ne_of_none e na)).trans e⟩
section
variable {X : Cx}
/-- e.n of a kept error of any class -/
theorem pe_xoA {e : Expr} {te : TE} {pos : Pos} {n : Str} (he : PE X e te) (hb : attributeBase e n X.env (eval e X.env) = eval e X.env := by rfl) :
    PE X (.Attribute e n pos) (fun σ H Q => te σ H fun x H1 => ∃ (a C : Addr) (fs : List (Str × V)) (v : V), x = .ref a ∧ ErAt H1 a C fs ∧ Err X.K C ∧ PySem.W.findIn X.K (.ref C) n = some none ∧ fs.lookup n = some v ∧ Q v H1) := by
  constructor
  intro pins s σ H Q I h
  refine attr_of hb (thn (he.run pins s σ H _ I h) fun u s1 hh => ?_)
  obtain ⟨x, H1, I1, rx, a, C, fs, v, rfl, ⟨dd, ha, ea⟩, T, hno, l, q⟩ := hh
  cases rx
  obtain ⟨oe, vs, hg, hz, hd⟩ := xo_at I1.hok ha
  obtain ⟨mA, hns, hr⟩ := (show ObjOk X.prog X.w H1 s1.heap dd (.xd fs) from I1.hok dd _ ea)
  obtain ⟨od, ho, hl⟩ := lookIn_ns hns
  have hrn := hr n
  rw [l] at hrn
  obtain ⟨u, hu, ru⟩ := RelO.some_of hrn
  have nc : PySem.W.notCls oe = true := by
    unfold PySem.W.notCls
    rw [hd]
  have J : PySem.W.InstAt s1.heap a oe C (some od) := by
    refine ⟨hg, hz.1, nc, ?_⟩
    rw [hz.2]
    exact ho
  have fo := PySem.W.findObj_own (K := X.K) (C := C) (od := od) (name := n) (v := u) T.hdC hno rfl (by rw [hl, hu])
  exact HandSPX.exc_get I1.kIn J T.ga T.gg T.exC fo (handed_of ru) ⟨v, H1, I1.tok _, ru, q⟩
/-- isinstance of a kept error that has no dict -/
theorem call_isX0 : CallR X (.builtin "isinstance") (fun xs H Q => ∃ (a D : Addr) (c : V) (u : Value) (b : Bool), xs = [.ref a, c] ∧ H a = some (Xo (.ref D) none a) ∧ Err X.K D ∧ ClsV c u ∧ PySem.W.kitOne X.K (.ref D) u = some b ∧ Q (.bl b) H) := by
  intro pins s σ H xs us Q I r h
  obtain ⟨a, D, c, u, b, rfl, ha, T, cv, e, q⟩ := h
  obtain ⟨u1, u2, rfl, r1, r2⟩ := vals2 r
  cases r1
  have e2 := cv.eq r2
  subst e2
  obtain ⟨oe, vs, hg, hz, hdat⟩ := xo_at I.hok ha
  have nc : PySem.W.notCls oe = true := by
    unfold PySem.W.notCls
    rw [hdat]
  have J : PySem.W.InstAt s.heap a oe D none := by
    refine ⟨hg, hz.1, nc, ?_⟩
    rw [hz.2]
    trivial
  exact PySem.W.kia_one (kitx_err T) I.kIn ⟨oe, none, J⟩ e (fun z => nomatch z) fun tk => ⟨.bl b, H, I.tok tk, rfl, q⟩
/-- C(), C an own error class without own __init__ -/
theorem pmk_own0 {C : Addr} {bmB : List Value} {B newId initId : String} {x : Str} {p pos : Pos} (F : ExcBaseFacts B newId initId bmB) (q : PySem.W.excIn X.K C bmB newId = true) (gC : X.mg x = some (.ref C))
    (kC : PySem.W.keepIn X.K (.ref C) = true) (r : Raises X (.ref C)) (hg : Gl X x) (hdb : (x == ("__debug__" : Str)) = false := by decide) :
    PMk X (.Call (.Name x p) [] [] pos) (fun _ H Q => Q (.ref C) none H) := by
  intro pins s σ H Q I h
  refine wpAny_Call_Name_kw (ld_glob I hg gC ?_ hdb)
  refine PySem.W.callWith_K0 I.kIn kC ?_
  show wpAny _ _ (call (.ref C) []) _ _ _
  obtain ⟨bm, N, nm, qn, bs, hdct, sn, sub, ab, col, dd, k0, k1, k2, k3, k5, mN, hC, hN, hni, T⟩ := exc_obj I.kIn q
  refine wpAny_call_exc_subT F T hC hN hni (fun h' e hm => ?_) (by decide)
  exact mk_of I hm r h (I.hok.gone hm.new)
end
end So

/-! own errors made and kept: what is asked in one step -/
namespace So
open PySem PySem.Spec PyProof.Rows L2
section
variable {X : Cx}
theorem pe_weak {e : Expr} {t t' : TE} (h : PE X e t) (k : ∀ σ H Q, t' σ H Q → t σ H Q) : PE X e t' := ⟨fun pins s σ H Q I w => h.run pins s σ H Q I (k σ H Q w)⟩
theorem ps_weak {st : Stmt} {t t' : TS} (h : PS X st t) (k : ∀ D σ H, t' D σ H → t D σ H) : PS X st t' := ⟨fun pins s σ H D I w => h.run pins s σ H D I (k D σ H w)⟩
/-- what the top says of an error with two fields -/
structure TwoE (K : PySem.W.Frag) (mg : Str → Option Value) (x n1 n2 : Str) (C f : Addr) (fd : FuncData) : Prop where
  T : OexC K C
  iC : PySem.W.findIn K (.ref C) "__init__" = some (some (.ref f))
  tI : PySem.W.typeIn K (.ref f) = some (.type "function")
  mgC : mg x = some (.ref C)
  no1 : PySem.W.findIn K (.ref C) n1 = some none
  no2 : PySem.W.findIn K (.ref C) n2 = some none
  err : Err K C
  hb : Binds K fd ["self", n1, n2] []
def k2 {α : Type} : List α → List α → List α
  | [u], [z] => [u, z]
  | _, _ => []
def k3 {α : Type} : List α → List α → List α
  | [u], [y, z] => [u, z, y]
  | _, _ => []
theorem k2_rel {vs : List V} {us : List Value} {zs : List V} {ws : List Value} (a : Vals vs us) (b : Vals zs ws) : Vals (k2 vs zs) (k2 us ws) := by
  cases a with
  | nil => exact .nil
  | cons a1 a2 =>
    cases a2 with
    | cons _ _ => exact .nil
    | nil =>
      cases b with
      | nil => exact .nil
      | cons b1 b2 =>
        cases b2 with
        | nil => exact .cons a1 (.cons b1 .nil)
        | cons _ _ => exact .nil
theorem k3_rel {vs : List V} {us : List Value} {zs : List V} {ws : List Value} (a : Vals vs us) (b : Vals zs ws) : Vals (k3 vs zs) (k3 us ws) := by
  cases a with
  | nil => exact .nil
  | cons a1 a2 =>
    cases a2 with
    | cons _ _ => exact .nil
    | nil =>
      cases b with
      | nil => exact .nil
      | cons b1 b2 =>
        cases b2 with
        | nil => exact .nil
        | cons b3 b4 =>
          cases b4 with
          | nil => exact .cons a1 (.cons b3 (.cons b1 .nil))
          | cons _ _ => exact .nil
theorem kbn2 {K : PySem.W.Frag} {fd : FuncData} {n : Str} (h : ∀ (s : Shared) (u z : Value), BindsTo s fd ⟨[u], [(n, z)]⟩ [("self", u), (n, z)]) : KBn K fd ["self", n] 1 [n] k2 k2 :=
  ⟨fun s us ws _ h1 h2 => match us, ws, h1, h2 with | [u], [z], _, _ => h s u z, k2_rel⟩
theorem kbn3 {K : PySem.W.Frag} {fd : FuncData} {n1 n2 : Str} (h : ∀ (s : Shared) (u y z : Value), BindsTo s fd ⟨[u], [(n2, y), (n1, z)]⟩ [("self", u), (n1, z), (n2, y)]) : KBn K fd ["self", n1, n2] 1 [n2, n1] k3 k3 :=
  ⟨fun s us ws _ h1 h2 => match us, ws, h1, h2 with | [u], [y, z], _, _ => h s u y z, k3_rel⟩
variable {x n n1 n2 : Str} {C f : Addr} {fd : FuncData} {e e2 : Expr} {p pos kp kp2 : Pos} {i j : Nat}
theorem pe_new1 (hex : X.ex = []) (O : OneE X.K X.mg x n C f fd) (F : FnOk X.prog X.w X.K X.mg X.base CX0 1 f fd ["self", n] (spOneE C n)) (hr : Room 2 X.A) (hg : Gl X x) (ha : PA X [e] (tCons (tVar i) tNil))
    (hdb : (x == ("__debug__" : Str)) = false := by decide) (hst : starEach [e] X.env = (false, eval e X.env) :: starEach [] X.env := by rfl) (hpl : (backTo pos (starEach [] X.env)).any (·.1) = false := by rfl) :
    PE X (.Call (.Name x p) [e] [] pos) (fun σ H Q => ∃ v, σ[i]? = some (some v) ∧ ∀ a H', Same H H' → ErAt H' a C [(n, v)] → Q (.ref a) H') :=
  pe_weak (pe_ofMk hex (pmk_one O F hr hg ha hdb hst hpl)) fun _ _ Q0 ⟨v, q, h⟩ => ⟨v, q, mkOne (C := C) (n := n) (v := v) (vs := [v]) (Q := fun cls d H' => ∀ a, H' a = none → Q0 (.ref a) (upd H' a (Xo cls d a))) rfl (keepOne h)⟩
theorem pe_new1K (hex : X.ex = []) (O : OneE X.K X.mg x n C f fd) (F : FnOk X.prog X.w X.K X.mg X.base CX0 1 f fd ["self", n] (spOneE C n)) (kb : KBn X.K fd ["self", n] 1 [n] k2 k2) (hr : Room 2 X.A) (hg : Gl X x) (he : PE X e (tVar i))
    (hall : (backToKw pos (keywordEach [⟨some n, e, kp⟩] X.env)).all (·.1.isSome) = true := by rfl) (hks : (backToKw pos (keywordEach [⟨some n, e, kp⟩] X.env)).filterMap (·.1) = [n] := by rfl) (hdb : (x == ("__debug__" : Str)) = false := by decide)
    (hpl : ((backTo pos (starEach [] X.env)).any (·.1) || (backToKw pos (keywordEach [⟨some n, e, kp⟩] X.env)).any (·.1.isNone)) = false := by rfl) :
    PE X (.Call (.Name x p) [] [⟨some n, e, kp⟩] pos) (fun σ H Q => ∃ v, σ[i]? = some (some v) ∧ ∀ a H', Same H H' → ErAt H' a C [(n, v)] → Q (.ref a) H') :=
  pe_weak (pe_ofMk hex (pmk_oexK O.T O.iC O.tI F hr kb (fun _ _ _ _ _ _ _ h => h.elim) hg O.mgC (pk_cons he pk_nil) hall hks hdb hpl)) fun _ _ Q0 ⟨v, q, h⟩ => ⟨v, q, rfl, (mkOne (C := C) (n := n) (v := v) (vs := [v]) (Q := fun cls d H' => ∀ a, H' a = none → Q0 (.ref a) (upd H' a (Xo cls d a))) rfl (keepOne h)).2⟩
theorem pe_new2 (hex : X.ex = []) (O : TwoE X.K X.mg x n1 n2 C f fd) (F : FnOk X.prog X.w X.K X.mg X.base CX0 1 f fd ["self", n1, n2] (spTwoE C n1 n2)) (hr : Room 2 X.A) (hg : Gl X x) (ha : PA X [e, e2] (tCons (tVar i) (tCons (tVar j) tNil)))
    (hdb : (x == ("__debug__" : Str)) = false := by decide) (hst : starEach [e, e2] X.env = (false, eval e X.env) :: starEach [e2] X.env := by rfl) (hpl : (backTo pos (starEach [e2] X.env)).any (·.1) = false := by rfl) :
    PE X (.Call (.Name x p) [e, e2] [] pos) (fun σ H Q => ∃ v, σ[i]? = some (some v) ∧ ∃ u, σ[j]? = some (some u) ∧ ∀ a H', Same H H' → ErAt H' a C [(n2, u), (n1, v)] → Q (.ref a) H') :=
  pe_weak (pe_ofMk hex (pmk_oex O.T O.iC O.tI F hr O.hb .nil (fun _ _ _ _ _ _ _ h => h.elim) hg O.mgC ha hdb hst hpl)) fun _ _ Q0 ⟨v, q, u, q2, h⟩ => ⟨v, q, u, q2, by show 2 ≤ 1000; decide, mkTwo (C := C) (n1 := n1) (n2 := n2) (v1 := v) (v2 := u) (Q := fun cls d H' => ∀ a, H' a = none → Q0 (.ref a) (upd H' a (Xo cls d a))) (keepOne h)⟩
theorem pe_new2K (hex : X.ex = []) (O : TwoE X.K X.mg x n1 n2 C f fd) (F : FnOk X.prog X.w X.K X.mg X.base CX0 1 f fd ["self", n1, n2] (spTwoE C n1 n2)) (kb : KBn X.K fd ["self", n1, n2] 1 [n2, n1] k3 k3) (hr : Room 2 X.A) (hg : Gl X x) (he : PE X e (tVar i)) (he2 : PE X e2 (tVar j))
    (hall : (backToKw pos (keywordEach [⟨some n2, e2, kp2⟩, ⟨some n1, e, kp⟩] X.env)).all (·.1.isSome) = true := by rfl) (hks : (backToKw pos (keywordEach [⟨some n2, e2, kp2⟩, ⟨some n1, e, kp⟩] X.env)).filterMap (·.1) = [n2, n1] := by rfl) (hdb : (x == ("__debug__" : Str)) = false := by decide)
    (hpl : ((backTo pos (starEach [] X.env)).any (·.1) || (backToKw pos (keywordEach [⟨some n2, e2, kp2⟩, ⟨some n1, e, kp⟩] X.env)).any (·.1.isNone)) = false := by rfl) :
    PE X (.Call (.Name x p) [] [⟨some n2, e2, kp2⟩, ⟨some n1, e, kp⟩] pos) (fun σ H Q => ∃ u, σ[j]? = some (some u) ∧ ∃ v, σ[i]? = some (some v) ∧ ∀ a H', Same H H' → ErAt H' a C [(n2, u), (n1, v)] → Q (.ref a) H') :=
  pe_weak (pe_ofMk hex (pmk_oexK O.T O.iC O.tI F hr kb (fun _ _ _ _ _ _ _ h => h.elim) hg O.mgC (pk_cons he2 (pk_cons he pk_nil)) hall hks hdb hpl)) fun _ _ Q0 ⟨u, q, v, q2, h⟩ => ⟨u, q, v, q2, rfl, mkTwo (C := C) (n1 := n1) (n2 := n2) (v1 := v) (v2 := u) (Q := fun cls d H' => ∀ a, H' a = none → Q0 (.ref a) (upd H' a (Xo cls d a))) (keepOne h)⟩
theorem pe_new0 (hex : X.ex = []) {bmB : List Value} {B newId initId : String} (F : ExcBaseFacts B newId initId bmB) (q : PySem.W.excIn X.K C bmB newId = true) (gC : X.mg x = some (.ref C)) (kC : PySem.W.keepIn X.K (.ref C) = true) (r : Raises X (.ref C)) (hg : Gl X x)
    (hdb : (x == ("__debug__" : Str)) = false := by decide) :
    PE X (.Call (.Name x p) [] [] pos) (fun _ H Q => ∀ a H', Same H H' → H' a = some (Xo (.ref C) none a) → Q (.ref a) H') :=
  pe_weak (pe_ofMk hex (pmk_own0 F q gC kC r hg hdb)) fun _ H _ h => fun a ha => h a _ (overS (Same.refl H) ha) upd_same
end
end So

/-! classmethods called by keyword; a class in a local name, called; raise of an own error with two fields -/
namespace So
open PySem PySem.Spec PyProof.Rows L2
section
variable {X : Cx} {CX : CXT} {k i : Nat} {f C : Addr} {fd : FuncData} {ps : List Str} {sp : Sp} {E : XK} {x : Str} {p pos : Pos} {e : Expr} {es : List Expr} {t : TA} {ds : List Value} {dvs : List V}
/-- x(e, ..), x a local name that holds a class -/
theorem pe_makeV (M : Mk X.K C f) (F : FnOk X.prog X.w X.K X.mg X.base CX k f fd ps sp) (hr : Room (k + 1) X.A) (hN : X.N[i]? = some x) (hv : Vis X.env.scope x) (hb : Binds X.K fd ps ds) (hd : Vals dvs ds) (hx : Passes CX X E)
    (ha : PA X (e :: es) t) (hdb : (x == ("__debug__" : Str)) = false := by decide) (hcd : (x == ("__classdict__" : Str)) = false := by decide)
    (he : starEach (e :: es) X.env = (false, eval e X.env) :: starEach es X.env := by rfl) (hpl : (backTo pos (starEach es X.env)).any (·.1) = false := by rfl) :
    PE X (.Call (.Name x p) (e :: es) [] pos) (fun σ H Q => σ[i]? = some (some (.ref C)) ∧ tMake C sp dvs E t σ H Q) := by
  refine ⟨fun pins s σ H Q I h => ?_⟩
  obtain ⟨hs, h⟩ := h
  refine wpAny_Call_Name_kw (thn ((pe_var (pos := p) (i := i) hN hv hdb hcd).run pins s σ H (fun v H1 => v = .ref C ∧ H1 = H) I ⟨.ref C, hs, rfl, rfl⟩) fun u s1 ⟨v, H1, I1, r1, ev, eH⟩ => ?_)
  subst ev
  rw [eH] at I1
  cases r1
  refine PySem.W.callWith_K (h₀ := X.base) I.ok.mod.kin M.kp (thn (ha.run pos pins s1 σ H _ I1 h) fun us s2 ⟨vs, H2, I2, r, q⟩ => ⟨I2.kIn, ?_⟩) he hpl
  exact run_make M F hr hb hd hx I2 r q
end
section
variable {X : Cx} {CX : CXT} {k : Nat} {C p g : Addr} {mc : Value} {fd : FuncData} {ps ks : List Str} {sp : Sp} {E : XK} {o : Expr} {kws : List Keyword} {m : Str} {pos apos : Pos} {ta : TE} {tk : TA} {pl : Sem Bool}
  {G : List Value → List Value → List Value} {GV : List V → List V → List V}
/-- C.m(k = v, ..), m a classmethod -/
theorem pe_cmethK (he : PE X o ta) (r : ClX.CRead X.K C mc) (c : ClX.CMet X.K C mc m p g) (F : FnOk X.prog X.w X.K X.mg X.base CX k g fd ps sp) (hb : KBinds X.K fd ps ks G GV) (hr : Room k X.A) (hx : Passes CX X E)
    (hkw : PK X kws tk) (hall : (backToKw pos (keywordEach kws X.env)).all (·.1.isSome) = true := by rfl) (hks : (backToKw pos (keywordEach kws X.env)).filterMap (·.1) = ks := by rfl)
    (hpl : ((backTo pos (starEach [] X.env)).any (·.1) || (backToKw pos (keywordEach kws X.env)).any (·.1.isNone)) = false := by rfl)
    (ht : eval (.Call (.Attribute o m apos) [] kws pos) X.env = (do
      let ov ← eval o X.env
      standAt apos.atName
      let fx ← holding [ov] (getMethod ov m pl)
      callWith pos fx.1 fx.2 (backTo pos (starEach [] X.env)) (backToKw pos (keywordEach kws X.env))) := by rfl) :
    PE X (.Call (.Attribute o m apos) [] kws pos) (fun σ H Q => ta σ H fun x H1 => x = .ref C ∧ tk σ H1 fun zs H2 => sp (GV [.ref C] zs) H2 Q E) := by
  refine ⟨fun pins s σ H Q I h => ?_⟩
  refine PySem.W.methodCall_KW (pl := pl) (thn (he.run pins s σ H _ I h) fun u s1 ⟨x, H1, I1, rx, ex, q⟩ => ?_) ht
  subst ex
  obtain rfl : u = Value.ref C := rx
  refine ClX.getmethcm_ok I1 r c fun s2 I2 => ?_
  refine PySem.W.callWith_of hpl (PySem.W.keeps_M c.fi) (evalArgs_kw2_nil hall (thn (hkw.run pos _ s2 σ H1 _ I2 q) fun ws s3 ⟨zs, H2, I3, rz, q2⟩ => ⟨⟨ClX.pin_at I3, I3.kIn⟩, ?_⟩))
  rw [hks]
  have z : wpAny (model X.prog X.w) X.A (call (.ref s1.heap.objs.size) ([] ++ []) (ks.zip ws)) (EP X ((s1.heap.objs.size, PySem.W.methodObj (.ref g) (.ref C)) :: pins) σ Q) X.xe s3 := by
    refine wpAny_call (PySem.W.method_call (ClX.pin_at I3) ?_)
    have r2 := hb.rel (vs := [.ref C]) (us := [.ref C]) (.cons rfl .nil) rz
    have hl : (G [.ref C] ws).length = ps.length := by rw [← r2.length]; exact F.len _ _ _ _ q2
    refine codeAny_mono (F.run X.A X.stack s3 H2 ⟨[.ref C], ks.zip ws⟩ (G [.ref C] ws) (GV [.ref C] zs) Q E hr I3.env0 (hb.to s3 [.ref C] ws I3.kIn hl) r2 q2) fun r s' hq => ?_
    cases r with
    | error e => exact hx _ σ H2 s3 e s' I3 hq
    | ok fl =>
      cases fl with
      | ret u => exact I3.after hq
      | next => exact False.elim hq
      | brk => exact False.elim hq
      | cont => exact False.elim hq
  exact thn z fun _ _ y => ClX.unpinE y
end
section
variable {X : Cx} {x n1 n2 : Str} {C f : Addr} {fd : FuncData} {e e2 : Expr} {p pos pos2 : Pos} {ta : TA}
/-- raise C(e, e2) -/
theorem ps_raiseTwo {W : WX} (O : TwoE X.K X.mg x n1 n2 C f fd) (F : FnOk X.prog X.w X.K X.mg X.base CX0 1 f fd ["self", n1, n2] (spTwoE C n1 n2)) (hc : X.calm = true) (hr : Room 2 X.A) (tk : Takes X W) (hg : Gl X x) (ha : PA X [e, e2] ta)
    (hdb : (x == ("__debug__" : Str)) = false := by decide) (hst : starEach [e, e2] X.env = (false, eval e X.env) :: starEach [e2] X.env := by rfl) (hpl : (backTo pos (starEach [e2] X.env)).any (·.1) = false := by rfl) :
    PS X (.Raise (some (.Call (.Name x p) [e, e2] [] pos)) none pos2) (fun _ σ H => tMkO C (spTwoE C n1 n2) [] ta σ H fun cls d H' => W cls d σ H') :=
  ps_raise hc tk (pmk_oex O.T O.iC O.tI F hr O.hb .nil (fun _ _ _ _ _ _ _ h => h.elim) hg O.mgC ha hdb hst hpl)
/-- behind C(v1, v2), as ps_raiseTwo asks it -/
theorem mkTwoV {C : Addr} {n1 n2 : Str} {vs : List V} {v1 v2 : V} {H1 : Hp} {Q : XK} (e : vs = [v1, v2]) (h : ∀ d H', Same H1 H' → H1 d = none → H' d = some (.xd [(n2, v2), (n1, v1)]) → Q (.ref C) (some d) H') :
    vs.length ≤ 1000 ∧ ∀ a, H1 a = none → spTwoE C n1 n2 (.ref a :: (vs ++ [])) (upd H1 a (exo a C none))
      (fun v H2 => v = .non ∧ ∃ (d : Addr) (fs : List (Str × V)), H2 a = some (exo a C (some d)) ∧ H2 d = some (exd d fs) ∧ H1 d = none ∧ Q (.ref C) (some d) (upd (del H2 a) d (.xd fs))) (fun _ _ _ => False) := by
  subst e
  exact ⟨by show 2 ≤ 1000; decide, mkTwo h⟩
end
end So

/-! zip(a list, a tuple) -/
namespace So
open PySem PySem.Spec PyProof.Rows L2
def ItzLT (K : PySem.W.Frag) (a b : Addr) : It :=
  ⟨fun i H => ∃ (xs ys : List V) (x y : V), SqL K H a xs ∧ SqT K H b ys ∧ xs[i]? = some x ∧ ys[i]? = some y,
    fun i H v H' => ∃ T x y, v = .ref T ∧ H T = none ∧ H' = upd H T (.tup [x, y]) ∧ (∀ xs, SqL K H a xs → xs[i]? = some x) ∧ ∀ ys, SqT K H b ys → ys[i]? = some y,
    fun i H => ∃ xs ys : List V, SqL K H a xs ∧ SqT K H b ys ∧ i ≤ xs.length ∧ i ≤ ys.length ∧ (i = xs.length ∨ i = ys.length)⟩
theorem turn_zipLT {P : Program} {w : World} {K : PySem.W.Frag} {elts : List Expr} {kk : Nat} {tpos : Pos} {a b z TI TO i1 i2 : Addr} (D : ZipSep2 z TI TO i1 i2 [i1, a] [i2, b]) (na : a ≠ i1) (nb : b ≠ i2) :
    Turn P w K (.Tuple elts kk tpos) (ItzLT K a b) [z, TI, TO, i1, i2] z (fun i h => IsZip h z TI TO .none ∧ IsTupOf2 h TI (.ref i1) (.ref i2) ∧ (∃ x y, IsTupOf2 h TO x y) ∧ h.IsListIter i1 a i ∧ h.IsTupleIter i2 b i) where
  mem := by simp
  obj := fun i h st c hc => by
    obtain ⟨hz, hTI, ⟨x, y, hTO⟩, ⟨o1, e1, _, d1⟩, ⟨o2, e2, _, d2⟩⟩ := st
    have e' : c = z ∨ c = TI ∨ c = TO ∨ c = i1 ∨ c = i2 := by simpa using hc
    rcases e' with q | q | q | q | q
    · rw [q]; exact ⟨_, hz, fun v q => nomatch q⟩
    · rw [q]; exact ⟨_, hTI, fun v q => nomatch q⟩
    · rw [q]; exact ⟨_, hTO, fun v q => nomatch q⟩
    · rw [q]; exact ⟨o1, e1, fun v q => by rw [d1] at q; cases q⟩
    · rw [q]; exact ⟨o2, e2, fun v q => by rw [d2] at q; cases q⟩
  keep := fun i h h' st k => by
    obtain ⟨hz, hTI, ⟨x, y, hTO⟩, h1, h2⟩ := st
    exact ⟨k z (by simp) _ hz, k TI (by simp) _ hTI, ⟨x, y, k TO (by simp) _ hTO⟩, h1.at fun o q => k i1 (by simp) o q, h2.at fun o q => k i2 (by simp) o q⟩
  item := by
    intro X hP hw hK hc i pins s σ H E I hf st hg
    subst hP hw hK
    obtain ⟨hz, hTI, ⟨x0, y0, hTO⟩, h1, h2⟩ := st
    obtain ⟨xs, ys, x, y, hqx, hqy, hx, hy⟩ := hg
    obtain ⟨its, rv, p, _⟩ := I.list hqx
    obtain ⟨its2, rv2, p2, _⟩ := I.tuple hqy
    obtain ⟨u, hu, ru⟩ := rv.get hx
    obtain ⟨u2, hu2, ru2⟩ := rv2.get hy
    have hzl : z < s.heap.objs.size := Heap.lt_size hz
    have lu : i < its.length := by
      rcases Nat.lt_or_ge i its.length with q | q
      · exact q
      · rw [List.getElem?_eq_none q] at hu; cases hu
    have lu2 : i < its2.length := by
      rcases Nat.lt_or_ge i its2.length with q | q
      · exact q
      · rw [List.getElem?_eq_none q] at hu2; cases hu2
    have D1 : Draws X.prog X.w X.A.in1 i1 [i1, a] _ _ _ := Draws.list (show X.A.in1.handled = none from I.ok.hd hc) i1 a na its.toArray
    have D2 : Draws X.prog X.w X.A.in1 i2 [i2, b] _ _ _ := Draws.tuple (show X.A.in1.handled = none from I.ok.hd hc) i2 b nb its2.toArray
    refine wpAny_pyNext_zipD2_item D D1 D2 hz hTI hTO ⟨h1, p.isList⟩ ⟨h2, p2⟩ (by simpa using lu) (by simpa using lu2) fun u' u2' h' tk e1 e2 z' TO' st1 st2 hT hsz hk => ?_
    obtain rfl : u = u' := by
      have e1' : its.toArray[i]? = some u' := e1
      have : its.toArray[i]? = some u := by simpa using hu
      rw [e1'] at this
      exact (Option.some.inj this).symm
    obtain rfl : u2 = u2' := by
      have e2' : its2.toArray[i]? = some u2' := e2
      have : its2.toArray[i]? = some u2 := by simpa using hu2
      rw [e2'] at this
      exact (Option.some.inj this).symm
    refine ⟨_, rfl, wpAny_letOwnedTupleGo_zip (s := { s with heap := h', toks := tk }) z' fun h'' z'' sb => ?_⟩
    have hT2 : h''.get? s.heap.objs.size = some { cls := .type "tuple", data := .seq #[u, u2] } := (sb.2 _ (Nat.ne_of_gt hzl)).trans hT
    have new : ObjOk X.prog X.w (upd H s.heap.objs.size (.tup [x, y])) h'' s.heap.objs.size (.tup [x, y]) :=
      ⟨by show 2 ≤ sizeLine; decide, [u, u2], .cons ru (.cons ru2 .nil), ⟨_, hT2, rfl, _, rfl⟩⟩
    have I1 : Inv X pins σ (upd H s.heap.objs.size (.tup [x, y])) { s with heap := h'', toks := tk } :=
      I.turnedNew (t' := tk) (ch := [z, TI, TO, i1, i2]) (fun c o hb q => (sb.2 c (fun q' => hb (by simp [q']))).trans (hk c o (fun q' => hb (by simp [q'])) (fun q' => hb (by simp [q'])) (fun q' => hb (by simp [q'])) (fun q' => hb (by simp [q'])) q)) hf (Nat.le_refl _) new
    refine ⟨.ref s.heap.objs.size, _, I1, rfl, ⟨_, x, y, rfl, I.hok.fresh (Nat.le_refl _), rfl, fun l hl => by rw [I.list_inj hl hqx]; exact hx, fun l hl => by rw [I.tuple_inj hl hqy]; exact hy⟩, ⟨z'', ?_, ⟨u, u2, ?_⟩, ?_, ?_⟩, fun c hcm => ?_⟩
    · exact (sb.2 _ D.TIz).trans (hk _ _ D.TIz D.TITO D.TIi1 D.TIi2 hTI)
    · exact (sb.2 _ D.TOz).trans TO'
    · exact st1.1.at fun o q => (sb.2 _ D.zi1.symm).trans q
    · exact st2.1.at fun o q => (sb.2 _ D.zi2.symm).trans q
    · have hlt : c < s.heap.objs.size := by
        have e' : c = z ∨ c = TI ∨ c = TO ∨ c = i1 ∨ c = i2 := by simpa using hcm
        rcases e' with q | q | q | q | q
        · rw [q]; exact hzl
        · rw [q]; exact Heap.lt_size hTI
        · rw [q]; exact Heap.lt_size hTO
        · rw [q]; obtain ⟨_, e1, _⟩ := h1; exact Heap.lt_size e1
        · rw [q]; obtain ⟨_, e2, _⟩ := h2; exact Heap.lt_size e2
      rw [upd_ne (Nat.ne_of_lt hlt)]
      exact (hf c hcm).1
  done := by
    intro X hP hw hK hc i pins s σ H E I hf st hg
    subst hP hw hK
    obtain ⟨hz, hTI, ⟨x0, y0, hTO⟩, h1, h2⟩ := st
    obtain ⟨xs, ys, hqx, hqy, le1, le2, hend⟩ := hg
    obtain ⟨its, rv, p, _⟩ := I.list hqx
    obtain ⟨its2, rv2, p2, _⟩ := I.tuple hqy
    have l1 := rv.length
    have l2 := rv2.length
    have D1 : Draws X.prog X.w X.A.in1 i1 [i1, a] _ _ _ := Draws.list (show X.A.in1.handled = none from I.ok.hd hc) i1 a na its.toArray
    have D2 : Draws X.prog X.w X.A.in1 i2 [i2, b] _ _ _ := Draws.tuple (show X.A.in1.handled = none from I.ok.hd hc) i2 b nb its2.toArray
    exact wpAny_pyNext_zipD2_end D D1 D2 hz hTI hTO ⟨h1, p.isList⟩ ⟨h2, p2⟩ (by simp; omega) (by simp; omega) (by simp; omega)
      fun h' tk hk => ⟨rfl, I.turnedL (t' := tk) (ch := [z, TI, TO, i1, i2]) (fun c o hb q =>
      hk c o (fun q' => hb (by simp [q'])) (fun q' => hb (by simp [q'])) (fun q' => hb (by simp [q'])) (fun q' => hb (by simp [q'])) q) hf⟩
  self := fun A i s Q E st h => wpAny_pyIter_zip st.1 h
def iZipLT (K : PySem.W.Frag) (ta : TA) : TI := fun σ H R => ta σ H fun vs H1 => ∃ a b xs ys, vs = [.ref a, .ref b] ∧ SqL K H1 a xs ∧ SqT K H1 b ys ∧ R (ItzLT K a b) H1
theorem pi_zipLT {X : Cx} {e e2 : Expr} {ta : TA} {p pos tpos : Pos} {elts : List Expr} {kk : Nat} (hg : Gl X "zip") (hm : X.mg "zip" = none) (ha : PA X [e, e2] ta)
    (hs : starEach [e, e2] X.env = (false, eval e X.env) :: starEach [e2] X.env := by rfl) (hpl : (backTo pos (starEach [e2] X.env)).any (·.1) = false := by rfl) :
    PI X (.Tuple elts kk tpos) (.Call (.Name "zip" p) [e, e2] [] pos) (iZipLT X.K ta) := by
  refine ⟨fun pins s σ H R I h => ?_⟩
  refine Call_ (ld_blt I hg hm PyProof.Rows.boot_zip (PyProof.Rows.callWith_type1 (thn (ha.run pos pins s σ H _ I h) fun us s1 ⟨vs, H1, I1, r1, q1⟩ => ?_) hs hpl))
  obtain ⟨a, b, xs, ys, rfl, hqx, hqy, q⟩ := q1
  obtain ⟨u1, u2, rfl, r, r'⟩ := vals2 r1
  cases r
  cases r'
  have fresh5 : ∀ c, c ∈ [s1.heap.objs.size + 4, s1.heap.objs.size + 2, s1.heap.objs.size + 3, s1.heap.objs.size, s1.heap.objs.size + 1] → FpOk X pins H1 c := fun c hcm => by
    have e' : c = s1.heap.objs.size + 4 ∨ c = s1.heap.objs.size + 2 ∨ c = s1.heap.objs.size + 3 ∨ c = s1.heap.objs.size ∨ c = s1.heap.objs.size + 1 := by simpa using hcm
    have hle : s1.heap.objs.size ≤ c := by
      rcases e' with z | z | z | z | z
      · rw [z]; exact Nat.le_add_right _ _
      · rw [z]; exact Nat.le_add_right _ _
      · rw [z]; exact Nat.le_add_right _ _
      · rw [z]; exact Nat.le_refl _
      · rw [z]; exact Nat.le_add_right _ _
    exact I1.fpOk hle (I1.hok.fresh hle)
  obtain ⟨its, rv, p1, _⟩ := I1.list hqx
  obtain ⟨its2, rv2, p2, _⟩ := I1.tuple hqy
  obtain ⟨o2, ho2, _⟩ := id p2
  have al : a < s1.heap.objs.size := p1.lt
  have bl : b < s1.heap.objs.size := Heap.lt_size ho2
  refine zip_begins2 (begins_list a its.toArray) (begins_tuple b its2.toArray) p1.isList (show s1.heap.IsTuple b its2.toArray from p2) fun h' hz hTI hTO h1 h2 hsz hk => wpAny_pyIter_zip hz ?_
  have I2 : Inv X pins σ H1 { s1 with heap := h' } := I1.kept (t' := s1.toks) hk
  exact ⟨s1.heap.objs.size + 4, [s1.heap.objs.size + 4, s1.heap.objs.size + 2, s1.heap.objs.size + 3, s1.heap.objs.size, s1.heap.objs.size + 1], _, _, H1, rfl, I2,
    turn_zipLT (zip_sep2 (fp1 := [a]) (fp2 := [b]) (by simpa using al) (by simpa using bl)) (Nat.ne_of_lt al) (Nat.ne_of_lt (Nat.lt_succ_of_lt bl)), ⟨hz, hTI, ⟨_, _, hTO⟩, ⟨_, h1, rfl, rfl⟩, ⟨_, h2, rfl, rfl⟩⟩, fresh5, q⟩
theorem walk_zipLT {K : PySem.W.Frag} {a b : Addr} {xs ys : List V} {n : Nat} (hn : n = min xs.length ys.length) : Walk (ItzLT K a b) n (fun H => SqL K H a xs ∧ SqT K H b ys) (YPair (fun i => xs[i]?) (fun i => ys[i]?)) := by
  subst hn
  refine ⟨fun i _ hi q => ?_, fun _ q => ⟨xs, ys, q.1, q.2, by omega, by omega, by omega⟩, fun i H v H' _ q y => ?_⟩
  · have h1 : i < xs.length := by omega
    have h2 : i < ys.length := by omega
    exact ⟨xs, ys, xs[i], ys[i], q.1, q.2, by simp [h1], by simp [h2]⟩
  · obtain ⟨T, x, z, h1, h2, h3, h4, h5⟩ := y
    exact ⟨T, x, z, h1, h2, h3, h4 xs q.1, h5 ys q.2⟩
end So

/-! enumerate(a tuple) as what a for goes through -/
namespace So
open PySem PySem.Spec PyProof.Rows L2
/-- enumerate(v): what pyIter of v makes, in an enumerate's cell -/
theorem enum_new1 {v : Value} {o : Obj} {Hp0 : Heap → Prop} (B : Begins v o Hp0) : Meets (Builtin.«enumerate.__new__» ⟨[.type "enumerate", v], []⟩) (fun _ R s => Hp0 s.heap ∧
    R (.ok (.ret (.ref (s.heap.push o).objs.size))) { s with heap := (s.heap.push o).push { cls := .type "enumerate", data := .fields #[.none, .bool false, .ref s.heap.objs.size, rawInt 0, .none, .none] } }) :=
  .of_wp fun prog w A R s h => by
    obtain ⟨hp, g, d, tk, os⟩ := s
    obtain ⟨h1, h⟩ := h
    have hsub := sub_enumerate
    have q1 : ∀ {A' : Around} {E : Value → Shared → Prop} {Q : Value → Shared → Prop}, Q (.ref hp.objs.size) ⟨hp.push o, g, d, tk, os⟩ → wpAny (model prog w) A' (pyIter v) Q E ⟨hp, g, d, tk, os⟩ :=
      fun q => B.iter prog w _ _ ⟨hp, g, d, tk, os⟩ _ h1 q
    wp_walk using q1
    refine wpAny_stack_any fun st => wpAny_pure ?_
    split
    · rename_i c _ _ _ _ _
      cases (c == Value.type "enumerate") <;> (wp_walk using q1; exact ⟨_, rfl, h⟩)
    · wp_walk using q1
      exact ⟨_, rfl, h⟩
/-- behind the last item -/
theorem enum_endT {prog : Program} {w : World} {A : Around} {E : Value → Shared → Prop} {s : Shared} {e it a : Addr} {i : Int} {j : Nat} {items : Array Value} {old : Value} {Q : Option Value → Shared → Prop} (hh : A.handled = none) (he : IsEnum s.heap e it i old)
    (hit : s.heap.IsTupleIter it a j) (ht : s.heap.IsTuple a items) (hx : items[j]? = none) (hQ : ∀ h', Heap.ExtBut it s.heap h' → Q none { s with heap := h' }) : wpAny (model prog w) A (pyNext (.ref e)) Q E s := by
  have hT : s.TypeIs (.ref e) "enumerate" := ⟨_, he, rfl⟩
  unfold pyNext
  refine wpAny_bind (wpAny_attempt (wpAny_callSpecial?_slot (name := Str.ofString "__next__") hT PySem.F.slot_enumerate_next (wpAny_call_entry PySem.F.slot_enumerate_next hT PySem.F.entry_enumerate_next ?_ (PySem.F.args_enumerate_next_1 _))))
  show wpAny _ _ (field (.ref e) 2 >>= _) _ _ _
  refine wpAny_bind (wpAny_field he rfl (x := .ref it) rfl (wpAny_bind (wpAny_nextOf_tuple_end (A := A.in1) hh hit ht hx fun h' x he' hx' => ?_)))
  obtain ⟨o, ho, hc⟩ := hx'
  exact wpAny_bind (wpAny_isInstance (T := "StopIteration") (b := true) ⟨o, ho, hc⟩ isSubtype_stop (wpAny_pure (hQ _ he')))
/-- the tuple at a, each item in a new pair with its index -/
def IteT (K : PySem.W.Frag) (a : Addr) : It :=
  ⟨fun i H => ∃ (xs : List V) (x : V), SqT K H a xs ∧ xs[i]? = some x, fun i H v H' => ∃ T x, v = .ref T ∧ H T = none ∧ H' = upd H T (.tup [.int (i : Nat), x]) ∧ ∀ xs, SqT K H a xs → xs[i]? = some x, fun i H => ∃ xs : List V, SqT K H a xs ∧ xs.length ≤ i⟩
theorem walk_enumT {K : PySem.W.Frag} {a : Addr} {xs : List V} : Walk (IteT K a) xs.length (fun H => SqT K H a xs) (YPair (fun i => some (.int (i : Nat))) (fun i => xs[i]?)) := by
  refine ⟨fun i _ hi q => ⟨xs, xs[i], q, by simp [hi]⟩, fun _ q => ⟨xs, q, Nat.le_refl _⟩, fun i H v H' _ q y => ?_⟩
  obtain ⟨T, x, h1, h2, h3, h4⟩ := y
  exact ⟨T, .int (i : Nat), x, h1, h2, h3, rfl, h4 xs q⟩
theorem turn_enumT {P : Program} {w : World} {K : PySem.W.Frag} {elts : List Expr} {kk : Nat} {tpos : Pos} (a e it : Addr) :
    Turn P w K (.Tuple elts kk tpos) (IteT K a) [e, it] e (fun i h => (∃ old, IsEnum h e it ((i : Nat) : Int) old) ∧ h.IsTupleIter it a i ∧ e ≠ it ∧ a ≠ it ∧ a ≠ e) where
  mem := by simp
  obj := fun i h st b hb => by
    obtain ⟨⟨old, he⟩, ⟨o, ho, hc, hd⟩, _⟩ := st
    have e' : b = e ∨ b = it := by simpa using hb
    rcases e' with z | z
    · rw [z]
      exact ⟨_, he, fun v q => nomatch q⟩
    · rw [z]
      exact ⟨o, ho, fun v q => by rw [hd] at q; cases q⟩
  keep := fun i h h' st k => by
    obtain ⟨⟨old, he⟩, hi, ne⟩ := st
    exact ⟨⟨old, k e (by simp) _ he⟩, hi.at fun o q => k it (by simp) o q, ne⟩
  item := by
    intro X hP hw hK hc i pins s σ H E I hf st hg
    subst hP hw hK
    obtain ⟨⟨old, he⟩, hit, ne, nai, nae⟩ := st
    obtain ⟨xs, x, hq, hx⟩ := hg
    obtain ⟨its, rv, p, hz⟩ := I.tuple hq
    obtain ⟨u, hu, ru⟩ := rv.get hx
    have hel : e < s.heap.objs.size := Heap.lt_size he
    have hil : it < s.heap.objs.size := by
      obtain ⟨_, q, _⟩ := hit
      exact Heap.lt_size q
    have hT0 : s.heap.IsTuple a its.toArray := p
    have hi : i < its.toArray.size := by
      have := (List.getElem?_eq_some_iff.mp hu).1
      simpa using this
    refine wpAny_pyNext_enum_itemD (Draws.tuple (A := X.A.in1) (show X.A.in1.handled = none from I.ok.hd hc) it a nai its.toArray) he ⟨hit, hT0⟩ hi ne (by simp [ne, Ne.symm nae]) fun x' h' tk hp ho hst hT hsz hk => ?_
    have ex : x' = u := by
      have h1 : its.toArray[i]? = some x' := hp
      have h2 : its.toArray[i]? = some u := by simpa using hu
      exact Option.some.inj (h1.symm.trans h2)
    subst ex
    refine ⟨_, rfl, wpAny_letOwnedTupleGo_enum (s := { s with heap := h', toks := tk + 1 }) ho fun h'' he' sb => ?_⟩
    have hT2 : h''.get? s.heap.objs.size = some { cls := .type "tuple", data := .seq #[.int i tk, x'] } := (sb.2 _ (Nat.ne_of_gt hel)).trans hT
    have new : ObjOk X.prog X.w (upd H s.heap.objs.size (.tup [.int (i : Nat), x])) h'' s.heap.objs.size (.tup [.int (i : Nat), x]) :=
      ⟨by show 2 ≤ sizeLine; decide, [.int i tk, x'], .cons ⟨_, rfl⟩ (.cons ru .nil), ⟨_, hT2, rfl, _, rfl⟩⟩
    have I1 : Inv X pins σ (upd H s.heap.objs.size (.tup [.int (i : Nat), x])) { s with heap := h'', toks := tk + 1 } :=
      I.turnedNew (ch := [e, it]) (fun b ob hb q => (sb.2 b (fun z => hb (by simp [z]))).trans (hk b ob (fun z => hb (by simp [z])) (fun z => hb (by simp [z])) q)) hf (Nat.le_refl _) new
    refine ⟨.ref s.heap.objs.size, _, I1, rfl, ⟨_, x, rfl, I.hok.fresh (Nat.le_refl _), rfl, fun ys hy => by rw [I.tuple_inj hy hq]; exact hx⟩, ⟨⟨x', ?_⟩, hst.1.at fun o q => (sb.2 it (Ne.symm ne)).trans q, ne, nai, nae⟩, fun b hb => ?_⟩
    · have e1 : ((i + 1 : Nat) : Int) = (i : Int) + 1 := by omega
      rw [e1]
      exact he'
    · have hb' : b < s.heap.objs.size := by
        have e' : b = e ∨ b = it := by simpa using hb
        rcases e' with z | z
        · rw [z]
          exact hel
        · rw [z]
          exact hil
      rw [upd_ne (Nat.ne_of_lt hb')]
      exact (hf b hb).1
  done := by
    intro X hP hw hK hc i pins s σ H E I hf st hg
    subst hP hw hK
    obtain ⟨⟨old, he⟩, hit, ne, nai, nae⟩ := st
    obtain ⟨xs, hq, hx⟩ := hg
    obtain ⟨its, rv, p, hz⟩ := I.tuple hq
    obtain ⟨f0, f1, f2, f3, f4, f5⟩ := hf it (by simp)
    have hl := rv.length
    exact enum_endT (I.ok.hd hc) he hit (show s.heap.IsTuple a its.toArray from p) (by simp; omega) fun h' eb => ⟨rfl, I.turned (t' := s.toks) (fun b o hb q => eb b o hb q) f0 f1 f3 f4 f5⟩
  self := fun A i s Q E st h => by
    obtain ⟨⟨_, he⟩, _⟩ := st
    exact wpAny_pyIter_enum he h
def iEnumT (K : PySem.W.Frag) (ta : TA) : TI := fun σ H R => ta σ H fun vs H1 => ∃ a xs, vs = [.ref a] ∧ SqT K H1 a xs ∧ R (IteT K a) H1
theorem pi_enumT {X : Cx} {e : Expr} {ta : TA} {p pos tpos : Pos} {elts : List Expr} {kk : Nat} (hg : Gl X "enumerate") (hm : X.mg "enumerate" = none) (ha : PA X [e] ta) (hs : starEach [e] X.env = [(false, eval e X.env)] := by rfl) :
    PI X (.Tuple elts kk tpos) (.Call (.Name "enumerate" p) [e] [] pos) (iEnumT X.K ta) := by
  refine ⟨fun pins s σ H R I h => ?_⟩
  refine Call_ (ld_blt I hg hm boot_enumerate (PyProof.Rows.callWith_type1 (thn (ha.run pos pins s σ H _ I h) fun us s1 ⟨vs, H1, I1, r1, q1⟩ => ?_) hs rfl))
  obtain ⟨a, xs, rfl, hq, q⟩ := q1
  obtain ⟨u, rfl, ru⟩ := vals1 r1
  obtain rfl : u = Value.ref a := ru
  obtain ⟨its, rv, p', hz⟩ := I1.tuple hq
  have ht : s1.heap.IsTuple a its.toArray := p'
  have al : a < s1.heap.objs.size := by
    obtain ⟨o, ho, _⟩ := ht
    exact Heap.lt_size ho
  have sz : (s1.heap.push { cls := .type "tuple_iterator", data := .fields #[.ref a, .int 0 0] }).objs.size = s1.heap.objs.size + 1 := Heap.size_push ..
  refine callType_new PySem.F.called_enumerate (by decide) (PySem.F.typeCall_enumerate_1 _) (PySem.F.newCall_enumerate_1 _) (fun obj => PySem.F.args_object_init_2 obj _) PySem.F.entry_enumerate_new (enum_new1 (begins_tuple a its.toArray)) ⟨ht, ?_⟩
  show _ ∧ _
  rw [sz]
  have he : IsEnum ((s1.heap.push { cls := .type "tuple_iterator", data := .fields #[.ref a, .int 0 0] }).push { cls := .type "enumerate", data := .fields #[.none, .bool false, .ref s1.heap.objs.size, rawInt 0, .none, .none] }) (s1.heap.objs.size + 1) s1.heap.objs.size 0 .none := by
    have := Heap.get?_push_size (s1.heap.push { cls := .type "tuple_iterator", data := .fields #[.ref a, .int 0 0] }) (o := { cls := .type "enumerate", data := .fields #[.none, .bool false, .ref s1.heap.objs.size, rawInt 0, .none, .none] }) rfl
    rw [sz] at this
    exact this
  refine ⟨⟨_, he, rfl⟩, wpAny_pyIter_enum he ?_⟩
  have I2 : Inv X pins σ H1 { s1 with heap := (s1.heap.push { cls := .type "tuple_iterator", data := .fields #[.ref a, .int 0 0] }).push { cls := .type "enumerate", data := .fields #[.none, .bool false, .ref s1.heap.objs.size, rawInt 0, .none, .none] } } :=
    I1.kept (t' := s1.toks) fun b o x => Heap.get?_push_of_some _ (Heap.get?_push_of_some _ x)
  refine ⟨s1.heap.objs.size + 1, [s1.heap.objs.size + 1, s1.heap.objs.size], _, _, H1, rfl, I2, turn_enumT a (s1.heap.objs.size + 1) s1.heap.objs.size, ⟨⟨.none, he⟩, ⟨_, Heap.get?_push_of_some _ (Heap.get?_push_size _ rfl), rfl, rfl⟩, Nat.succ_ne_self _, Nat.ne_of_lt al, Nat.ne_of_lt (Nat.lt_succ_of_lt al)⟩, fun b hb => ?_, q⟩
  have e' : b = s1.heap.objs.size + 1 ∨ b = s1.heap.objs.size := by simpa using hb
  have hle : s1.heap.objs.size ≤ b := by
    rcases e' with z | z
    · rw [z]
      exact Nat.le_add_right _ _
    · rw [z]
      exact Nat.le_refl _
  exact I1.fpOk hle (I1.hok.fresh hle)
end So

namespace K81
open PySem PySem.Spec PyProof.Rows L2 So
abbrev sNumber : Stmt := topS 19
abbrev sHasForm : Stmt := topS 20
abbrev sWordsOf : Stmt := topS 21
abbrev sFirst : Stmt := topS 22
abbrev sTold : Stmt := topS 23
abbrev sValueOf : Stmt := topS 24
theorem scNumber : FnScope ["word", "sign"] ["word"] (defScope sNumber) := ⟨rfl, rfl, rfl, by decide +kernel, rfl, by decide +kernel, by decide +kernel⟩
theorem scHasForm : FnScope ["word", "form"] ["word", "form"] (defScope sHasForm) := ⟨rfl, rfl, rfl, by decide +kernel, rfl, by decide +kernel, by decide +kernel⟩
theorem scWordsOf : FnScope ["text"] ["text"] (defScope sWordsOf) := ⟨rfl, rfl, rfl, by decide +kernel, rfl, by decide +kernel, by decide +kernel⟩
theorem scFirst : FnScope ["words", "forms", "at", "form"] ["words", "forms"] (defScope sFirst) := ⟨rfl, rfl, rfl, by decide +kernel, rfl, by decide +kernel, by decide +kernel⟩
theorem scTold : FnScope ["line", "words", "forms", "wrong", "word", "form"] ["line", "words", "forms"] (defScope sTold) := ⟨rfl, rfl, rfl, by decide +kernel, rfl, by decide +kernel, by decide +kernel⟩
theorem scValueOf : FnScope ["word", "form"] ["word", "form"] (defScope sValueOf) := ⟨rfl, rfl, rfl, by decide +kernel, rfl, by decide +kernel, by decide +kernel⟩
/-! ### numbers -/
def isDig (c : Nat) : Bool := decide (c ∈ digits.cps.toList)
def numOf (z : Str) : Nat := NumText.digitsVal z.cps.toList
def isNum (z : Str) : Bool := decide (1 ≤ z.length) && decide (z.length ≤ 31) && z.cps.toList.all isDig && (decide (z = ("0" : Str)) || (decide (z.cps.toList.headD 0 ≠ 48) && decide (((numOf z : Nat) : Int) ≤ 1000000000000000000000000000000)))
theorem dig_iff : ∀ c : Nat, isDig c = true → 48 ≤ c ∧ c ≤ 57 := by
  intro c h
  have h : c ∈ digits.cps.toList := of_decide_eq_true h
  have : ∀ c ∈ digits.cps.toList, 48 ≤ c ∧ c ≤ 57 := by decide +kernel
  exact this c h
theorem dig_of {c : Nat} (h : 48 ≤ c ∧ c ≤ 57) : isDig c = true := by
  have : ∀ k < 10, isDig (48 + k) = true := by decide +kernel
  have e : c = 48 + (c - 48) := by omega
  rw [e]
  exact this _ (by omega)
theorem all_dig {z : Str} (h : z.cps.toList.all isDig = true) : NumText.AllDigits z.cps.toList := fun c hc => dig_iff c (List.all_eq_true.mp h c hc)
theorem int_of {z : Str} (h1 : 1 ≤ z.length) (h2 : z.length ≤ 31) (h : z.cps.toList.all isDig = true) : PySem.intText? z = some ((numOf z : Nat) : Int) := by
  refine PySem.intText_digits (all_dig h) (fun e => ?_) (by omega)
  have : z.length = z.cps.toList.length := Array.length_toList.symm
  rw [e] at this
  simp at this
  omega
theorem zero_num : numOf ("0" : Str) = 0 := by decide +kernel
theorem isNum_le {z : Str} (h : isNum z = true) : 1 ≤ z.length ∧ z.length ≤ 31 ∧ z.cps.toList.all isDig = true ∧ (((numOf z : Nat) : Int) ≤ 1000000000000000000000000000000) := by
  unfold isNum at h
  simp only [Bool.and_eq_true, Bool.or_eq_true, decide_eq_true_eq] at h
  refine ⟨h.1.1.1, h.1.1.2, h.1.2, ?_⟩
  rcases h.2 with e | e
  · rw [e, zero_num]
    decide
  · exact e.2
theorem ascii_0 (c : Nat) : (V.str ⟨#[c]⟩ = V.str ("0" : Str)) ↔ c = 48 := by
  constructor
  · intro h
    have h := V.str.inj h
    have h2 := congrArg (fun z : Str => z.cps.toList) h
    have : (("0" : Str)).cps.toList = [48] := by decide +kernel
    simp [this] at h2
    exact h2
  · rintro rfl
    have : (("0" : Str)) = ⟨#[48]⟩ := by decide +kernel
    rw [this]
section
variable {P : Program} {w : World} {K : PySem.W.Frag} {mg : Str → Option Value} {base : Heap}
/-- is_number -/
def spNumber : Sp := fun vs H Q _ => ∃ z : Str, vs = [.str z] ∧ z.length ≤ 2000 ∧ ∀ H', Same H H' → Q (.bl (isNum z)) H'
theorem ok_number {f : Addr} {fd : FuncData} (F : Fun K "is_number" "is_number" sNumber f fd) (W : Words K mg) (hL : ∃ t, mg "LONGEST_NUMBER" = some (.int 31 t)) : FnOk P w K mg base CX0 1 f fd ["word"] spNumber := by
  refine F.ok scNumber (fun vs H Q E h => ?_) (fun cdv A outer s H vs Q E hr h => ?_)
  · obtain ⟨z, rfl, _⟩ := h
    rfl
  · obtain ⟨z, rfl, hz, q⟩ := h
    obtain ⟨tL, hL⟩ := hL
    obtain ⟨tD, hD⟩ := W.digits
    obtain ⟨tG, hG⟩ := W.greatest
    refine ⟨_, pss_cons (ps_if (PW.pt (pw_or (pt_not (pt_chain op_le op_le pe_int (pe_callB call_len_str (by rfl) W.len PySem.boot_len (pa_cons (pv 0) pa_nil)) (pe_glob (v := .int 31) rfl hL ⟨_, rfl⟩)))
        (pw_or1 (pt_not (pt_val (pe_callB (cr_all rfl) (by rfl) W.all (by decide +kernel) (pa_cons (pe_lc (own := [("sign", 1)]) (g := gName 1) (tt := tYes) rfl scNumber.nd (pi_str (pv 0)) (blkOk_by (N := ["word", "sign"]) (sc := defScope sNumber) (by decide +kernel))
          (fun _ _ _ _ _ => pg_name (i := 1) scNumber.nd rfl (Or.inl rfl)) (fun _ _ _ _ _ => pts_nil) (fun _ _ _ _ _ => pe_cmpR op_in_sign (pv 1) (pe_glob (v := .str digits) rfl hD ⟨_, rfl⟩) (by rfl))) pa_nil)))))))
        (pss_one (ps_ret pe_bl)) pss_nil)
      (pss_one (ps_ret (pe_or (pe_cmpR op_eq (pv 0) pe_str (nomark _)) (pe_one (pe_and (pe_cmpR op_ne (pe_ix ix_str (pv 0) pe_int (fun _ _ => rfl)) pe_str (nomark _))
        (pe_one (pe_cmpR op_le (pe_callTy call_int_str (by rfl) W.int (by decide +kernel) (pa_cons (pv 0) pa_nil)) (pe_glob (v := .int 1000000000000000000000000000000) rfl hG ⟨_, rfl⟩) (nomark _)))))))), ?_⟩
    have hzl : z.length ≤ sizeLine := Nat.le_trans hz (by decide)
    have no : isNum z = false → ∀ H', Same H H' → Q (.bl false) H' := fun e H' s => by
      have := q H' s
      rw [e] at this
      exact this
    refine ⟨_, rfl, _, rfl, hzl, _, _, rfl, rfl, _, rfl, ite2 (fun c1 => ?_) (fun c1 => ⟨_, rfl, iteT (no ?_ H (Same.refl H))⟩)⟩
    case refine_2 =>
      have c1' : ¬ (1 : Int) ≤ ((z.length : Nat) : Int) := fun e => c1 (decide_eq_true e)
      unfold isNum
      rw [show decide (1 ≤ z.length) = false from decide_eq_false (by omega)]
      rfl
    have c1' : (1 : Int) ≤ ((z.length : Nat) : Int) := of_decide_eq_true c1
    refine ⟨_, _, rfl, rfl, _, rfl, ?_⟩
    by_cases c2 : ((z.length : Nat) : Int) ≤ 31
    case neg =>
      rw [decide_eq_false c2]
      refine iteT (no ?_ H (Same.refl H))
      unfold isNum
      rw [show decide (z.length ≤ 31) = false from decide_eq_false (by omega), Bool.and_false]
      rfl
    rw [decide_eq_true c2]
    have e1 : decide (1 ≤ z.length) = true := decide_eq_true (by omega)
    have e2 : decide (z.length ≤ 31) = true := decide_eq_true (by omega)
    refine iteF ⟨_, rfl, _, rfl, fun D hD => lc_it walk_str (fun i H' => H' D = some (.lst ((z.cps.toList.take i).map fun c => V.bl (isDig c))) ∧ Same H H') ⟨?_, ?_⟩ (fun _ _ _ _ => trivial) ?_ ?_⟩
    · exact upd_same
    · exact Same.over (Same.refl H) hD
    · rintro i x H1 H2 hi ⟨h1, s1⟩ ⟨rfl, c, hc1, rfl⟩
      have hc2 : z.cps.toList[i]? = some c := by
        rw [Array.getElem?_toList]
        exact hc1
      refine ⟨rfl, _, rfl, c, _, rfl, rfl, _, h1, ?_, ?_, Same.over s1 hD⟩
      · rw [List.length_map, List.length_take]
        have : z.cps.toList.length = z.length := Array.length_toList
        exact Nat.lt_of_le_of_lt (Nat.le_trans (Nat.min_le_right _ _) (by omega)) (by decide : 2000 < sizeLine)
      · rw [upd_same, List.take_add_one, hc2, List.map_append]
        rfl
    · rintro H1 ⟨h1, s1⟩
      refine ⟨D, z.cps.toList.map isDig, rfl, SqL.of ?_, ?_⟩
      · rw [h1, List.take_of_length_le (by rw [Array.length_toList]; exact Nat.le_refl _), List.map_map]
        rfl
      · rw [List.all_map]
        refine ⟨_, rfl, ?_⟩
        cases c3 : z.cps.toList.all (id ∘ isDig) with
        | false =>
          refine iteT (no ?_ H1 s1)
          have c3' : z.cps.toList.all isDig = false := c3
          unfold isNum
          rw [c3', Bool.and_false, Bool.false_and]
        | true =>
          have c3' : z.cps.toList.all isDig = true := c3
          refine iteF ?_
          have ez : isNum z = (decide (z = ("0" : Str)) || (decide (z.cps.toList.headD 0 ≠ 48) && decide (((numOf z : Nat) : Int) ≤ 1000000000000000000000000000000))) := by
            unfold isNum
            rw [e1, e2, c3']
            rfl
          have q1 := q H1 s1
          rw [ez] at q1
          refine ⟨_, rfl, rfl, _, rfl, ite2 (fun c4 => ?_) (fun c4 => ?_)⟩
          · have c4' : z = ("0" : Str) := V.str.inj (of_decide_eq_true c4)
            rw [decide_eq_true c4', Bool.true_or] at q1
            exact q1
          · have c4' : ¬ z = ("0" : Str) := fun e => c4 (decide_eq_true (by rw [e]))
            rw [decide_eq_false c4', Bool.false_or] at q1
            obtain ⟨c0, cr, hc⟩ : ∃ c0 cr, z.cps.toList = c0 :: cr := by
              have hz0 : 0 < z.cps.toList.length := by
                have : z.length = z.cps.toList.length := Array.length_toList.symm
                omega
              cases e : z.cps.toList with
              | nil => rw [e] at hz0; cases hz0
              | cons a r => exact ⟨a, r, rfl⟩
            refine ⟨_, rfl, _, _, c0, rfl, rfl, hzl, ?_, rfl, _, rfl, ?_⟩
            · rw [hc]
              exact atI_nat (j := 0) rfl
            · have eh : z.cps.toList.headD 0 = c0 := by rw [hc]; rfl
              rw [eh] at q1
              by_cases c5 : c0 = 48
              · have : (!decide (V.str ⟨#[c0]⟩ = V.str ("0" : Str))) = false := by
                  rw [decide_eq_true ((ascii_0 c0).mpr c5)]
                  rfl
                rw [show (decide (c0 ≠ 48)) = false from decide_eq_false (fun h => h c5), Bool.false_and] at q1
                rw [this]
                exact iteF q1
              · have : (!decide (V.str ⟨#[c0]⟩ = V.str ("0" : Str))) = true := by
                  rw [decide_eq_false (fun h => c5 ((ascii_0 c0).mp h))]
                  rfl
                rw [show (decide (c0 ≠ 48)) = true from decide_eq_true c5, Bool.true_and] at q1
                rw [this]
                refine iteT ⟨_, rfl, z, _, rfl, int_of (by omega) (by omega) c3', by omega, _, _, rfl, rfl, q1⟩
end
end K81

namespace K81
open PySem PySem.Spec PyProof.Rows L2 So
/-! ### forms of words -/
def hasForm (form z : Str) : Bool :=
  if form = "name" then isName z else if form = "moment" then isNum z else if form = "beginning" then isNum z && !decide (z = ("0" : Str)) else if form = "truth" then (["sound", "unsound"] : List Str).contains z else decide (z = form)
/-- the first word that has not its form -/
def fw : List Str → List Str → Nat → Option Nat
  | ws, [], n => if ws.isEmpty then none else some n
  | [], _ :: _, n => some n
  | w :: ws, f :: fs, n => if hasForm f w = true then fw ws fs (n + 1) else some n
theorem fw_cons (w : Str) (ws : List Str) (f : Str) (fs : List Str) (n : Nat) : fw (w :: ws) (f :: fs) n = if hasForm f w = true then fw ws fs (n + 1) else some n := by
  conv => lhs; unfold fw
theorem fw_end (ws : List Str) (n : Nat) : fw ws [] n = if ws.isEmpty then none else some n := by
  cases ws <;> rfl
def optV : Option Nat → V
  | none => .non
  | some n => .int (n : Nat)
def valOf (form z : Str) : V := if form = "moment" ∨ form = "beginning" then .int ((numOf z : Nat) : Int) else if form = "truth" then .bl (decide (z = ("sound" : Str))) else .str z
theorem fw_none : ∀ {ws fs : List Str} {n : Nat}, fw ws fs n = none → ws.length = fs.length ∧ ∀ (i : Nat) (w f : Str), ws[i]? = some w → fs[i]? = some f → hasForm f w = true
  | [], [], _, _ => ⟨rfl, fun i w f h => by simp at h⟩
  | _ :: _, [], _, h => by simp [fw] at h
  | [], _ :: _, _, h => by simp [fw] at h
  | w :: ws, f :: fs, n, h => by
    unfold fw at h
    split at h
    · rename_i c
      obtain ⟨h1, h2⟩ := fw_none h
      refine ⟨by simp [h1], fun i w' f' hw hf => ?_⟩
      cases i with
      | zero =>
        simp at hw hf
        rw [← hw, ← hf]
        exact c
      | succ i => exact h2 i w' f' (by simpa using hw) (by simpa using hf)
    · cases h
section
variable {P : Program} {w : World} {K : PySem.W.Frag} {mg : Str → Option Value} {base : Heap}
def spHasForm : Sp := fun vs H Q _ => ∃ z form : Str, vs = [.str z, .str form] ∧ z.length ≤ 2000 ∧ ∀ H', Same H H' → Q (.bl (hasForm form z)) H'
theorem ok_hasForm {f fN fU : Addr} {fd fdN fdU : FuncData} (F : Fun K "has_form" "has_form" sHasForm f fd) (FN : Fun K "is_name" "is_name" sName fN fdN) (bN : Binds K fdN ["value"] []) (gN : mg "is_name" = some (.ref fN)) (GN : FnOk P w K mg base CX0 1 fN fdN ["value"] spName)
    (FU : Fun K "is_number" "is_number" sNumber fU fdU) (bU : Binds K fdU ["word"] []) (gU : mg "is_number" = some (.ref fU)) (GU : FnOk P w K mg base CX0 1 fU fdU ["word"] spNumber) : FnOk P w K mg base CX0 2 f fd ["word", "form"] spHasForm := by
  refine F.ok scHasForm (fun vs H Q E h => ?_) (fun cdv A outer s H vs Q E hr h => ?_)
  · obtain ⟨z, form, rfl, _⟩ := h
    rfl
  · obtain ⟨z, form, rfl, hz, q⟩ := h
    refine ⟨_, pss_cons (ps_if (pt_cmpR op_eq (pv 1) pe_str (nomark _)) (pss_one (ps_ret (pe_call GN hr (by rfl) gN FN.kp bN .nil pass0 (pa_cons (pv 0) pa_nil)))) pss_nil)
      (pss_cons (ps_if (pt_cmpR op_eq (pv 1) pe_str (nomark _)) (pss_one (ps_ret (pe_call GU hr (by rfl) gU FU.kp bU .nil pass0 (pa_cons (pv 0) pa_nil)))) pss_nil)
      (pss_cons (ps_if (pt_cmpR op_eq (pv 1) pe_str (nomark _)) (pss_one (ps_ret (pe_and (pe_call GU hr (by rfl) gU FU.kp bU .nil pass0 (pa_cons (pv 0) pa_nil)) (pe_one (pe_cmpR op_ne (pv 0) pe_str (nomark _)))))) pss_nil)
      (pss_cons (ps_if (pt_cmpR op_eq (pv 1) pe_str (nomark _)) (pss_one (ps_ret (pe_cmpR op_in_seq (pv 0) (pe_tup (pa_cons pe_str (pa_cons pe_str pa_nil))) (by rfl)))) pss_nil)
      (pss_one (ps_ret (pe_cmpR op_eq (pv 0) (pv 1) (nomark _))))))), ?_⟩
    refine ⟨_, rfl, rfl, _, rfl, ite2 (fun c => ?_) (fun c1 => ?_)⟩
    · obtain rfl : form = "name" := V.str.inj (of_decide_eq_true c)
      exact ⟨_, rfl, _, "str", rfl, .str z hz, fun H1 s1 => q H1 s1⟩
    have n1 : ¬ form = "name" := fun e => c1 (decide_eq_true (by rw [e]))
    refine ⟨_, rfl, rfl, _, rfl, ite2 (fun c => ?_) (fun c2 => ?_)⟩
    · obtain rfl : form = "moment" := V.str.inj (of_decide_eq_true c)
      exact ⟨_, rfl, z, rfl, hz, fun H1 s1 => q H1 s1⟩
    have n2 : ¬ form = "moment" := fun e => c2 (decide_eq_true (by rw [e]))
    refine ⟨_, rfl, rfl, _, rfl, ite2 (fun c => ?_) (fun c3 => ?_)⟩
    · obtain rfl : form = "beginning" := V.str.inj (of_decide_eq_true c)
      have q : ∀ H', Same H H' → Q (.bl (isNum z && !decide (z = ("0" : Str)))) H' := q
      refine ⟨_, rfl, z, rfl, hz, fun H1 s1 => ⟨_, rfl, ?_⟩⟩
      have q1 := q H1 s1
      cases e : isNum z with
      | false =>
        rw [e, Bool.false_and] at q1
        exact iteF q1
      | true =>
        rw [e, Bool.true_and] at q1
        refine iteT ⟨_, rfl, rfl, ?_⟩
        have : (decide (V.str z = V.str ("0" : Str))) = decide (z = ("0" : Str)) := by
          by_cases h : z = ("0" : Str)
          · rw [decide_eq_true h, decide_eq_true (by rw [h])]
          · rw [decide_eq_false h, decide_eq_false (fun y => h (V.str.inj y))]
        rw [this]
        exact q1
    have n3 : ¬ form = "beginning" := fun e => c3 (decide_eq_true (by rw [e]))
    refine ⟨_, rfl, rfl, _, rfl, ite2 (fun c => ?_) (fun c4 => ?_)⟩
    · obtain rfl : form = "truth" := V.str.inj (of_decide_eq_true c)
      have q : ∀ H', Same H H' → Q (.bl ((["sound", "unsound"] : List Str).contains z)) H' := q
      refine ⟨_, rfl, by show 2 ≤ sizeLine; decide, fun t ht => ⟨t, _, rfl, .inr (SqT.of upd_same), rfl, flat_strs ["sound", "unsound"], ?_⟩⟩
      rw [show (if false = true then !inV (V.str z) [V.str "sound", V.str "unsound"] else inV (V.str z) [V.str "sound", V.str "unsound"]) = (["sound", "unsound"] : List Str).contains z from inV_strs z ["sound", "unsound"]]
      exact q _ (same_upd0 ht)
    have n4 : ¬ form = "truth" := fun e => c4 (decide_eq_true (by rw [e]))
    refine ⟨_, rfl, _, rfl, rfl, ?_⟩
    have e : hasForm form z = decide (V.str z = V.str form) := by
      unfold hasForm
      rw [if_neg n1, if_neg n2, if_neg n3, if_neg n4]
      by_cases h : z = form
      · rw [decide_eq_true h, decide_eq_true (by rw [h])]
      · rw [decide_eq_false h, decide_eq_false (fun y => h (V.str.inj y))]
    have q1 := q H (Same.refl H)
    rw [e] at q1
    exact q1
/-- words_of: a text's words, or BadText(0, 0) -/
def spWordsOf (K : PySem.W.Frag) (CB : Addr) : Sp := fun vs H Q E => ∃ v, vs = [v] ∧ ((∃ z : Str, v = .str z ∧ z.length ≤ 2000 ∧ ∀ (H' : Hp) (a : Addr), Same H H' → H a = none → H' a = some (.lst ((Txt.split z " ").map V.str)) → Q (.ref a) H') ∨
  (∃ t, TyX K H v t ∧ PySem.W.kitOne K t (.type "str") = some false ∧ ∀ d H', Same H H' → H' d = some (.xd [("word", .int 0), ("line", .int 0)]) → E (.ref CB) (some d) H'))
theorem ok_wordsOf {CB f fB : Addr} {fd fdB : FuncData} (F : Fun K "words_of" "words_of" sWordsOf f fd) (W : Words K mg) (O : TwoE K mg "BadText" "line" "word" CB fB fdB) (GB : FnOk P w K mg base CX0 1 fB fdB ["self", "line", "word"] (spTwoE CB "line" "word")) :
    FnOk P w K mg base (L2.CX P w) 3 f fd ["text"] (spWordsOf K CB) := by
  refine F.okX scWordsOf (fun vs H Q E h => ?_) (fun cdv A outer s H vs Q E hr h => ?_)
  · obtain ⟨v, rfl, _⟩ := h
    rfl
  · obtain ⟨v, rfl, h⟩ := h
    refine ⟨_, pss_cons (ps_if (pt_not (pt_val (pe_callB call_isi (by rfl) W.isi (by decide +kernel) (pa_cons (pv 0) (pa_cons (pe_bltn (v := .ty "str") (by rfl) W.str (by decide +kernel) rfl) pa_nil)))))
        (pss_one (ps_raiseTwo O GB rfl hr (takes_of rfl rfl rfl rfl) (by rfl) (pa_cons pe_int (pa_cons pe_int pa_nil)))) pss_nil)
      (pss_one (ps_ret (pe_split (pv 0) pe_str))), ?_⟩
    rcases h with ⟨z, rfl, hz, q⟩ | ⟨t, ty, hk, q⟩
    · refine ⟨_, rfl, _, _, _, _, true, rfl, .ty "str", .base (.str z), kit_str_str, true, rfl, iteF ?_⟩
      refine ⟨_, rfl, ⟨_, rfl⟩, _, _, rfl, rfl, by decide, Nat.le_trans (Nat.add_le_add_right hz 2) (by decide), fun p hp => ?_⟩
      exact q _ p (same_upd0 hp) hp upd_same
    · refine ⟨_, rfl, _, _, _, _, false, rfl, .ty "str", ty, hk, false, rfl, iteT ?_⟩
      exact mkTwoV rfl fun d H' s _ e => q d H' s e
/-- first_wrong -/
def spFirst (K : PySem.W.Frag) : Sp := fun vs H Q _ => ∃ (a ft : Addr) (ws fs : List Str), vs = [.ref a, .ref ft] ∧ SqL K H a (ws.map V.str) ∧ SqT K H ft (fs.map V.str) ∧ (∀ H', Same H H' → SqL K H' a (ws.map V.str)) ∧ (∀ H', Same H H' → SqT K H' ft (fs.map V.str)) ∧ (∀ z ∈ ws, z.length ≤ 2000) ∧
  ∀ H', Same H H' → Q (optV (fw ws fs 0)) H'
theorem ok_first {f fH : Addr} {fd fdH : FuncData} (F : Fun K "first_wrong" "first_wrong" sFirst f fd) (W : Words K mg) (me : mg "enumerate" = none) (FH : Fun K "has_form" "has_form" sHasForm fH fdH) (bH : Binds K fdH ["word", "form"] []) (gH : mg "has_form" = some (.ref fH))
    (GH : FnOk P w K mg base CX0 2 fH fdH ["word", "form"] spHasForm) : FnOk P w K mg base CX0 3 f fd ["words", "forms"] (spFirst K) := by
  refine F.ok scFirst (fun vs H Q E h => ?_) (fun cdv A outer s H vs Q E hr h => ?_)
  · obtain ⟨_, _, _, _, rfl, _⟩ := h
    rfl
  · obtain ⟨a, ft, ws, fs, rfl, ha0, hf0, ha, hf, hz, q⟩ := h
    refine ⟨_, pss_cons (ps_for PassesOwn.never rfl (pi_enumT (by rfl) me (pa_cons (pv 1) pa_nil)) (pg_tup rfl (pgs_cons (pg_name (i := 2) scFirst.nd rfl (Or.inl rfl)) (pgs_cons (pg_name (i := 3) scFirst.nd rfl (Or.inl rfl)) pgs_nil)))
        (pss_one (ps_if (PW.pt (pw_or (pt_cmpR op_eq (pv 2) (pe_callB call_len_seq (by rfl) W.len PySem.boot_len (pa_cons (pv 0) pa_nil)) (nomark _)) (pw_or1 (pt_not (pt_val (pe_call GH hr (by rfl) gH FH.kp bH .nil pass0 (pa_cons (pe_ix ix_list (pv 0) (pv 2) (fun _ _ => rfl)) (pa_cons (pv 3) pa_nil))))))))
          (pss_one (ps_ret (pv 2))) pss_nil)))
      (pss_cons (ps_if (pt_cmpR op_gt (pe_callB call_len_seq (by rfl) W.len PySem.boot_len (pa_cons (pv 0) pa_nil)) (pe_callB call_len_seq (by rfl) W.len PySem.boot_len (pa_cons (pv 1) pa_nil)) (nomark _)) (pss_one (ps_ret (pe_callB call_len_seq (by rfl) W.len PySem.boot_len (pa_cons (pv 1) pa_nil)))) pss_nil)
      (pss_one (ps_ret pe_non))), ?_⟩
    refine ⟨_, rfl, ft, _, rfl, hf0, for_it walk_enumT (fun i σ H' => (∃ x2 x3, σ = [some (.ref a), some (.ref ft), x2, x3]) ∧ Same H H' ∧ i ≤ ws.length ∧ fw (ws.drop i) (fs.drop i) i = fw ws fs 0) ⟨⟨_, _, rfl⟩, Same.refl H, Nat.zero_le _, rfl⟩ (fun _ _ _ _ y => hf _ y.2.1) ?_ ?_⟩
    · rintro i x σ H1 H2 hi ⟨⟨x2, x3, rfl⟩, s1, hle, hfw⟩ ⟨t, u, y, rfl, ht, rfl, hu, hy⟩
      cases hu
      replace hy : (fs.map V.str)[i]? = some y := hy
      rw [List.getElem?_map] at hy
      obtain ⟨fm, hfm, rfl⟩ : ∃ fm, fs[i]? = some fm ∧ y = .str fm := by
        cases e : fs[i]? with
        | none => rw [e] at hy; cases hy
        | some m => rw [e] at hy; exact ⟨m, rfl, (Option.some.inj hy).symm⟩
      have s2 := s1.trans (same_upd0 (o := .tup [.int (i : Nat), .str fm]) ht)
      have ef : fs.drop i = fm :: fs.drop (i + 1) := by
        obtain ⟨hlt, e⟩ := List.getElem?_eq_some_iff.mp hfm
        rw [List.drop_eq_getElem_cons hlt, e]
      refine ⟨t, _, rfl, SqT.of upd_same, rfl, _, _, rfl, _, _, rfl, rfl, ?_⟩
      refine ⟨_, rfl, _, rfl, a, _, rfl, .inl (ha _ s2), rfl, _, rfl, ite2 (fun c => ?_) (fun c => ?_)⟩
      · have c' : ((i : Nat) : Int) = (((ws.map V.str).length : Nat) : Int) := V.int.inj (of_decide_eq_true c)
        rw [List.length_map] at c'
        have c2 : i = ws.length := by omega
        have : fw ws fs 0 = some i := by
          rw [← hfw, ef, List.drop_of_length_le (by omega)]
          rfl
        have q1 := q _ s2
        rw [this] at q1
        exact ⟨_, rfl, q1⟩
      · have c' : ¬ ((i : Nat) : Int) = (((ws.map V.str).length : Nat) : Int) := fun e => c (decide_eq_true (by rw [e]))
        rw [List.length_map] at c'
        have hlt : i < ws.length := by omega
        have ew : ws.drop i = ws[i] :: ws.drop (i + 1) := List.drop_eq_getElem_cons hlt
        have hzi : ws[i].length ≤ 2000 := hz _ (List.getElem_mem hlt)
        refine ⟨_, rfl, _, rfl, a, _, _, _, rfl, rfl, ha _ s2, atI_nat (j := i) (by rw [List.getElem?_map, List.getElem?_eq_getElem hlt]; rfl), _, rfl, ws[i], fm, rfl, hzi, fun H3 s3 => ⟨_, rfl, ?_⟩⟩
        have s13 := s2.trans s3
        rw [ef, ew, fw_cons] at hfw
        cases hg : hasForm fm ws[i] with
        | false =>
          rw [hg, if_neg Bool.false_ne_true] at hfw
          have q1 := q _ s13
          rw [← hfw] at q1
          exact iteT ⟨_, rfl, q1⟩
        | true =>
          rw [hg, if_pos rfl] at hfw
          exact iteF ⟨⟨_, _, rfl⟩, s13, hlt, hfw⟩
    · rintro σ H1 ⟨⟨x2, x3, rfl⟩, s1, hle, hfw⟩
      rw [List.length_map] at hle hfw
      rw [List.drop_of_length_le (Nat.le_refl fs.length)] at hfw
      refine ⟨_, rfl, a, _, rfl, .inl (ha _ s1), _, rfl, ft, _, rfl, .inr (hf _ s1), _, _, rfl, rfl, _, rfl, ite2 (fun c => ?_) (fun c => ?_)⟩
      · have c' : (((fs.map V.str).length : Nat) : Int) < (((ws.map V.str).length : Nat) : Int) := of_decide_eq_true c
        rw [List.length_map, List.length_map] at c'
        have : fw ws fs 0 = some fs.length := by
          rw [← hfw, fw_end]
          rw [if_neg (by rw [List.isEmpty_iff]; intro e; have := congrArg List.length e; rw [List.length_drop] at this; simp at this; omega)]
        have q1 := q _ s1
        rw [this] at q1
        refine ⟨_, rfl, ft, _, rfl, .inr (hf _ s1), ?_⟩
        rw [List.length_map]
        exact q1
      · have c' : ¬ (((fs.map V.str).length : Nat) : Int) < (((ws.map V.str).length : Nat) : Int) := fun e => c (decide_eq_true e)
        rw [List.length_map, List.length_map] at c'
        have : fw ws fs 0 = none := by
          rw [← hfw, List.drop_of_length_le (by omega)]
          rfl
        have q1 := q _ s1
        rw [this] at q1
        exact q1
end
end K81

namespace K81
open PySem PySem.Spec PyProof.Rows L2 So
theorem form_num {form z : Str} (h : hasForm form z = true) (hf : form = "moment" ∨ form = "beginning") : isNum z = true := by
  rcases hf with rfl | rfl
  · exact h
  · have h : (isNum z && !decide (z = ("0" : Str))) = true := h
    rw [Bool.and_eq_true] at h
    exact h.1
/-- what the words say, each by its form -/
def valsOf (ws fs : List Str) : List V := (ws.zip fs).map fun p => valOf p.2 p.1
section
variable {P : Program} {w : World} {K : PySem.W.Frag} {mg : Str → Option Value} {base : Heap}
def spValueOf : Sp := fun vs H Q _ => ∃ z form : Str, vs = [.str z, .str form] ∧ z.length ≤ 2000 ∧ (form = "moment" ∨ form = "beginning" → isNum z = true) ∧ ∀ H', Same H H' → Q (valOf form z) H'
theorem ok_valueOf {f : Addr} {fd : FuncData} (F : Fun K "value_of" "value_of" sValueOf f fd) (W : Words K mg) : FnOk P w K mg base CX0 1 f fd ["word", "form"] spValueOf := by
  refine F.ok scValueOf (fun vs H Q E h => ?_) (fun cdv A outer s H vs Q E hr h => ?_)
  · obtain ⟨z, form, rfl, _⟩ := h
    rfl
  · obtain ⟨z, form, rfl, hz, hn, q⟩ := h
    refine ⟨_, pss_cons (ps_if (pt_cmpR op_in_seq (pv 1) (pe_tup (pa_cons pe_str (pa_cons pe_str pa_nil))) (by rfl)) (pss_one (ps_ret (pe_callTy call_int_str (by rfl) W.int (by decide +kernel) (pa_cons (pv 0) pa_nil)))) pss_nil)
      (pss_cons (ps_if (pt_cmpR op_eq (pv 1) pe_str (nomark _)) (pss_one (ps_ret (pe_cmpR op_eq (pv 0) pe_str (nomark _)))) pss_nil)
      (pss_one (ps_ret (pv 0)))), ?_⟩
    refine ⟨_, rfl, by show 2 ≤ sizeLine; decide, fun t ht => ⟨t, _, rfl, .inr (SqT.of upd_same), rfl, flat_strs ["moment", "beginning"], ?_⟩⟩
    rw [show (if false = true then !inV (V.str form) [V.str "moment", V.str "beginning"] else inV (V.str form) [V.str "moment", V.str "beginning"]) = (["moment", "beginning"] : List Str).contains form from inV_strs form ["moment", "beginning"]]
    have s1 := same_upd0 (o := .tup [.str "moment", .str "beginning"]) ht
    refine ⟨_, rfl, ite2 (fun c => ?_) (fun c => ?_)⟩
    · have c' : form = "moment" ∨ form = "beginning" := by simpa using c
      obtain ⟨h1, h2, h3, _⟩ := isNum_le (hn c')
      have q1 := q _ s1
      unfold valOf at q1
      rw [if_pos c'] at q1
      exact ⟨_, rfl, z, _, rfl, int_of h1 h2 h3, by omega, q1⟩
    · have c' : ¬ (form = "moment" ∨ form = "beginning") := fun e => c (by simpa using e)
      have q1 := q _ s1
      unfold valOf at q1
      rw [if_neg c'] at q1
      refine ⟨_, rfl, rfl, _, rfl, ite2 (fun c2 => ?_) (fun c2 => ?_)⟩
      · rw [if_pos (V.str.inj (of_decide_eq_true c2))] at q1
        refine ⟨_, rfl, rfl, ?_⟩
        have : (decide (V.str z = V.str ("sound" : Str))) = decide (z = ("sound" : Str)) := by
          by_cases h : z = ("sound" : Str)
          · rw [decide_eq_true h, decide_eq_true (by rw [h])]
          · rw [decide_eq_false h, decide_eq_false (fun y => h (V.str.inj y))]
        rw [this]
        exact q1
      · rw [if_neg (fun e => c2 (decide_eq_true (by rw [e])))] at q1
        exact ⟨_, rfl, q1⟩
/-- told_by -/
def spTold (K : PySem.W.Frag) (CB : Addr) : Sp := fun vs H Q E => ∃ (line : Int) (a ft : Addr) (ws fs : List Str), vs = [.int line, .ref a, .ref ft] ∧ H a = some (.lst (ws.map V.str)) ∧ SqT K H ft (fs.map V.str) ∧ (∀ H' : Hp, Same H H' → SqT K H' ft (fs.map V.str)) ∧ (∀ z ∈ ws, z.length ≤ 2000) ∧ fs.length ≤ 100 ∧
  (fw ws fs 0 = none → ∀ (H' : Hp) (l : Addr), Same H H' → H l = none → H' l = some (.lst (valsOf ws fs)) → Q (.ref l) H') ∧
  ∀ n : Nat, fw ws fs 0 = some n → ∀ d H', Same H H' → H' d = some (.xd [("word", .int (n : Nat)), ("line", .int line)]) → E (.ref CB) (some d) H'
theorem ok_told {CB f fB fF fV : Addr} {fd fdB fdF fdV : FuncData} (F : Fun K "told_by" "told_by" sTold f fd) (mz : mg "zip" = none) (O : TwoE K mg "BadText" "line" "word" CB fB fdB) (GB : FnOk P w K mg base CX0 1 fB fdB ["self", "line", "word"] (spTwoE CB "line" "word"))
    (FF : Fun K "first_wrong" "first_wrong" sFirst fF fdF) (bF : Binds K fdF ["words", "forms"] []) (gF : mg "first_wrong" = some (.ref fF)) (GF : FnOk P w K mg base CX0 3 fF fdF ["words", "forms"] (spFirst K))
    (FV : Fun K "value_of" "value_of" sValueOf fV fdV) (bV : Binds K fdV ["word", "form"] []) (gV : mg "value_of" = some (.ref fV)) (GV : FnOk P w K mg base CX0 1 fV fdV ["word", "form"] spValueOf) :
    FnOk P w K mg base (L2.CX P w) 4 f fd ["line", "words", "forms"] (spTold K CB) := by
  refine F.okX scTold (fun vs H Q E h => ?_) (fun cdv A outer s H vs Q E hr h => ?_)
  · obtain ⟨_, _, _, _, _, rfl, _⟩ := h
    rfl
  · obtain ⟨line, a, ft, ws, fs, rfl, ha, hf0, hf, hz, h100, qy, qn⟩ := h
    have hr1 : Room 1 _ := hr.mono (by decide)
    have hr2 : Room 2 _ := hr.mono (by decide)
    refine ⟨_, pss_cons (ps_set (i := 3) scTold.nd rfl (.inl rfl) (pe_call GF hr (by rfl) gF FF.kp bF .nil pass0 (pa_cons (pv 1) (pa_cons (pv 2) pa_nil))))
      (pss_cons (ps_if (pt_cmpR op_notN (pv 3) pe_non (nomark _)) (pss_one (ps_raiseTwo O GB rfl hr2 (takes_of rfl rfl rfl rfl) (by rfl) (pa_cons (pv 0) (pa_cons (pv 3) pa_nil)))) pss_nil)
      (pss_one (ps_ret (pe_lc (own := [("word", 4), ("form", 5)]) (g := gTup K 2 (gCons (gName 4) (gCons (gName 5) gNil))) (tt := tYes) rfl scTold.nd (pi_zipLT (by rfl) mz (pa_cons (pv 1) (pa_cons (pv 2) pa_nil))) (blkOk_by (N := ["line", "words", "forms", "wrong", "word", "form"]) (sc := defScope sTold) (by decide +kernel))
        (fun _ _ _ _ _ => pg_tup rfl (pgs_cons (pg_name (i := 4) scTold.nd rfl (Or.inl rfl)) (pgs_cons (pg_name (i := 5) scTold.nd rfl (Or.inl rfl)) pgs_nil))) (fun _ _ _ _ _ => pts_nil)
        (fun _ _ _ _ _ => pe_call GV hr1 (by rfl) gV FV.kp bV .nil pass0 (pa_cons (pv 4) (pa_cons (pv 5) pa_nil))))))), ?_⟩
    refine ⟨_, rfl, _, rfl, a, ft, ws, fs, rfl, SqL.of ha, hf0, fun _ s => SqL.of (s _ _ ha), hf, hz, fun H1 s1 => ?_⟩
    cases hw : fw ws fs 0 with
    | some n =>
      refine ⟨_, rfl, rfl, _, rfl, ite2 (fun _ => ?_) (fun e => absurd rfl e)⟩
      exact ⟨_, rfl, _, rfl, mkTwoV rfl fun d H' s _ e => qn n hw d H' (s1.trans s) e⟩
    | none =>
      refine ⟨_, rfl, rfl, _, rfl, ite2 (fun e => nomatch e) (fun _ => ?_)⟩
      obtain ⟨hlen, hall⟩ := fw_none hw
      refine ⟨_, rfl, _, rfl, a, ft, _, _, rfl, SqL.of (s1 _ _ ha), hf _ s1, fun D hD => ?_⟩
      refine lc_it (walk_zipLT rfl) (fun i H' => Same H1 H' ∧ H' D = some (.lst (valsOf (ws.take i) (fs.take i)))) ⟨same_upd0 hD, upd_same⟩ (fun _ _ _ y => ⟨SqL.of (y.1 _ _ (s1 _ _ ha)), hf _ (s1.trans y.1)⟩) ?_ ?_
      · rintro i x H2 H3 hi ⟨s2, hDi⟩ ⟨T0, u, y, rfl, hT0, rfl, hu, hy⟩
        replace hu : (ws.map V.str)[i]? = some u := hu
        replace hy : (fs.map V.str)[i]? = some y := hy
        rw [List.getElem?_map] at hu hy
        obtain ⟨wm, hwm, rfl⟩ : ∃ wm, ws[i]? = some wm ∧ u = .str wm := by
          cases e : ws[i]? with
          | none => rw [e] at hu; cases hu
          | some m => rw [e] at hu; exact ⟨m, rfl, (Option.some.inj hu).symm⟩
        obtain ⟨fm, hfm, rfl⟩ : ∃ fm, fs[i]? = some fm ∧ y = .str fm := by
          cases e : fs[i]? with
          | none => rw [e] at hy; cases hy
          | some m => rw [e] at hy; exact ⟨m, rfl, (Option.some.inj hy).symm⟩
        have s3 := s2.trans (same_upd0 (o := .tup [.str wm, .str fm]) hT0)
        have hD3 := (same_upd0 (o := .tup [.str wm, .str fm]) hT0) _ _ hDi
        have hg := hall i wm fm hwm hfm
        refine ⟨T0, _, rfl, SqT.of upd_same, rfl, _, _, rfl, _, _, rfl, rfl, rfl, _, rfl, _, rfl, wm, fm, rfl, hz _ (List.mem_of_getElem? hwm), form_num hg, fun H4 s4 => ⟨_, s4 _ _ hD3, ?_, Same.over (s3.trans s4) hD, ?_⟩⟩
        · unfold valsOf
          rw [List.length_map, List.length_zip, List.length_take, List.length_take]
          have := sizeLine_eq
          omega
        · rw [upd_same]
          have e1 : ws.take (i + 1) = ws.take i ++ [wm] := by rw [List.take_add_one, hwm]; rfl
          have e2 : fs.take (i + 1) = fs.take i ++ [fm] := by rw [List.take_add_one, hfm]; rfl
          have lw : i < ws.length := (List.getElem?_eq_some_iff.mp hwm).1
          have lf : i < fs.length := (List.getElem?_eq_some_iff.mp hfm).1
          unfold valsOf
          rw [e1, e2, List.zip_append (by rw [List.length_take, List.length_take]; omega), List.map_append]
          rfl
      · rintro H2 ⟨s2, hDi⟩
        rw [List.length_map, List.length_map, List.take_of_length_le (by omega), List.take_of_length_le (by omega)] at hDi
        exact qy hw _ D (s1.trans s2) (s1.free hD) hDi
end
end K81

namespace K81
open PySem PySem.Spec PyProof.Rows L2 So
abbrev sLines : Stmt := topS 47
abbrev sAlone : Stmt := topS 48
abbrev sRead : Stmt := inClass (topS 51) 1
theorem scLines : FnScope ["text", "line"] ["text"] (defScope sLines) := ⟨rfl, rfl, rfl, by decide +kernel, rfl, by decide +kernel, by decide +kernel⟩
theorem scAlone : FnScope ["lines"] ["lines"] (defScope sAlone) := ⟨rfl, rfl, rfl, by decide +kernel, rfl, by decide +kernel, by decide +kernel⟩
abbrev readN : List Str := ["cls", "text", "lines", "_", "tool", "moment", "by"]
theorem scRead : FnScope readN ["cls", "text"] (defScope sRead) := ⟨rfl, rfl, rfl, by decide +kernel, rfl, by decide +kernel, by decide +kernel⟩
abbrev F5 : List Str := ["check", "name", "moment", "by", "name"]
theorem valOf_str {f z : Str} (h1 : ¬ (f = "moment" ∨ f = "beginning")) (h2 : ¬ f = "truth") : valOf f z = .str z := by
  unfold valOf
  rw [if_neg h1, if_neg h2]
theorem vals5 (a b c d e : Str) : valsOf [a, b, c, d, e] F5 = [.str a, .str b, .int ((numOf c : Nat) : Int), .str d, .str e] := by
  show [valOf "check" a, valOf "name" b, valOf "moment" c, valOf "by" d, valOf "name" e] = _
  have e3 : valOf "moment" c = .int ((numOf c : Nat) : Int) := by
    unfold valOf
    rw [if_pos (.inl rfl)]
  rw [valOf_str (f := "check") (by decide +kernel) (by decide +kernel), valOf_str (f := "name") (by decide +kernel) (by decide +kernel), e3, valOf_str (f := "by") (by decide +kernel) (by decide +kernel), valOf_str (f := "name") (by decide +kernel) (by decide +kernel)]
theorem lit_form {f : Str} (z : Str) (h1 : ¬ f = "name") (h2 : ¬ f = "moment") (h3 : ¬ f = "beginning") (h4 : ¬ f = "truth") : hasForm f z = decide (z = f) := by
  unfold hasForm
  rw [if_neg h1, if_neg h2, if_neg h3, if_neg h4]
theorem check_form' (z : Str) : hasForm "check" z = decide (z = ("check" : Str)) := lit_form z (by decide +kernel) (by decide +kernel) (by decide +kernel) (by decide +kernel)
theorem by_form' (z : Str) : hasForm "by" z = decide (z = ("by" : Str)) := lit_form z (by decide +kernel) (by decide +kernel) (by decide +kernel) (by decide +kernel)
section
variable {P : Program} {w : World} {K : PySem.W.Frag} {mg : Str → Option Value} {base : Heap}
/-- the text of an entry -/
def entText (z : Str) (m : Int) (y : Str) : Str := (((((Str.empty ++ ("check " : Str)) ++ z) ++ (" " : Str)) ++ Str.ofString (toString m)) ++ (" by " : Str)) ++ y
def spStr (C : Addr) : Sp := fun vs H Q _ => ∃ (a : Addr) (z : Str) (m : Int) (y : Str), vs = [.ref a] ∧ At C H a z m y ∧ z.length ≤ 8 ∧ y.length ≤ 8 ∧ m.natAbs.log2 < 1920 ∧ Q (.str (entText z m y)) H
theorem ok_str {f C : Addr} {fd : FuncData} (F : Fun K "__str__" "Entry.__str__" sStr f fd) (T : Ent K mg C) : FnOk P w K mg base CX0 1 f fd ["self"] (spStr C) := by
  refine F.ok scStr (fun vs H Q E h => ?_) (fun cdv A outer s H vs Q E hr h => ?_)
  · obtain ⟨a, z, m, y, rfl, _⟩ := h
    rfl
  · obtain ⟨a, z, m, y, rfl, ⟨dx, ha⟩, hz, hy, hm, q⟩ := h
    refine ⟨_, pss_one (ps_ret (pe_joined (.cons pe_str (.cons (pe_fmt (pe_fld (pv 0) rfl)) (.cons pe_str (.cons (pe_fmt (pe_fld (pv 0) rfl)) (.cons pe_str (.cons (pe_fmt (pe_fld (pv 0) rfl)) .nil)))))))), ?_⟩
    have sl := sizeLine_eq
    have lm : (Str.ofString (toString m)).length ≤ 1921 := by
      rw [PyProof.Rows.ofString_length]
      exact int_text_length_le (k := 1920) (by decide) hm
    have l1 : (Str.empty ++ ("check " : Str)).length = 6 := by decide +kernel
    have l2 : ((Str.empty ++ ("check " : Str)) ++ z).length = 6 + z.length := by rw [Str.length_append, l1]
    have l3 : (((Str.empty ++ ("check " : Str)) ++ z) ++ (" " : Str)).length = 6 + z.length + 1 := by
      rw [Str.length_append, l2]
      rfl
    have l4 : ((((Str.empty ++ ("check " : Str)) ++ z) ++ (" " : Str)) ++ Str.ofString (toString m)).length = 6 + z.length + 1 + (Str.ofString (toString m)).length := by rw [Str.length_append, l3]
    have l5 : (((((Str.empty ++ ("check " : Str)) ++ z) ++ (" " : Str)) ++ Str.ofString (toString m)) ++ (" by " : Str)).length = 6 + z.length + 1 + (Str.ofString (toString m)).length + 4 := by
      rw [Str.length_append, l4]
      rfl
    have l6 : ((((((Str.empty ++ ("check " : Str)) ++ z) ++ (" " : Str)) ++ Str.ofString (toString m)) ++ (" by " : Str)) ++ y).length = 6 + z.length + 1 + (Str.ofString (toString m)).length + 4 + y.length := by rw [Str.length_append, l5]
    refine ⟨_, rfl, by rw [l1]; omega, ?_⟩
    refine ⟨_, rfl, a, C, dx, _, _, rfl, ha, T.cl, T.nT, sf_tool _ _ _, .inl ⟨z, rfl, by omega, z, rfl, by rw [l2]; omega, ?_⟩⟩
    refine ⟨_, rfl, by rw [l3]; omega, ?_⟩
    refine ⟨_, rfl, a, C, dx, _, _, rfl, ha, T.cl, T.nM, sf_moment _ _ _, .inr ⟨m, rfl, hm, _, rfl, by show ((((Str.empty ++ ("check " : Str)) ++ z) ++ (" " : Str)) ++ Str.ofString (toString m)).length ≤ _; rw [l4]; omega, ?_⟩⟩
    refine ⟨_, rfl, by show (((((Str.empty ++ ("check " : Str)) ++ z) ++ (" " : Str)) ++ Str.ofString (toString m)) ++ (" by " : Str)).length ≤ _; rw [l5]; omega, ?_⟩
    refine ⟨_, rfl, a, C, dx, _, _, rfl, ha, T.cl, T.nB, sf_by _ _ _, .inl ⟨y, rfl, by omega, y, rfl, by show ((((((Str.empty ++ ("check " : Str)) ++ z) ++ (" " : Str)) ++ Str.ofString (toString m)) ++ (" by " : Str)) ++ y).length ≤ _; rw [l6]; omega, ?_⟩⟩
    exact q
end
end K81

namespace K81
open PySem PySem.Spec PyProof.Rows L2 So
section
variable {P : Program} {w : World} {K : PySem.W.Frag} {mg : Str → Option Value} {base : Heap}
/-- lines_of: the words of each line, or BadText(0, 0) -/
def spLines (K : PySem.W.Frag) (CB : Addr) : Sp := fun vs H Q E => ∃ v, vs = [v] ∧ ((∃ z : Str, v = .str z ∧ z.length ≤ 2000 ∧ ∀ (H' : Hp) (a q : Addr) (qs : List Addr) (p0 : Str) (ps : List Str), Txt.split z "\n" = p0 :: ps → Same H H' → H' a = some (.lst ((q :: qs).map V.ref)) → qs.length = ps.length →
    H' q = some (.lst ((Txt.split p0 " ").map V.str)) → Q (.ref a) H') ∨
  (∃ t, TyX K H v t ∧ PySem.W.kitOne K t (.type "str") = some false ∧ ∀ d H', Same H H' → H' d = some (.xd [("word", .int 0), ("line", .int 0)]) → E (.ref CB) (some d) H'))
theorem ok_lines {CB f fB : Addr} {fd fdB : FuncData} (F : Fun K "lines_of" "lines_of" sLines f fd) (W : Words K mg) (O : TwoE K mg "BadText" "line" "word" CB fB fdB) (GB : FnOk P w K mg base CX0 1 fB fdB ["self", "line", "word"] (spTwoE CB "line" "word")) :
    FnOk P w K mg base (L2.CX P w) 3 f fd ["text"] (spLines K CB) := by
  refine F.okX scLines (fun vs H Q E h => ?_) (fun cdv A outer s H vs Q E hr h => ?_)
  · obtain ⟨v, rfl, _⟩ := h
    rfl
  · obtain ⟨v, rfl, h⟩ := h
    refine ⟨_, pss_cons (ps_if (pt_not (pt_val (pe_callB call_isi (by rfl) W.isi (by decide +kernel) (pa_cons (pv 0) (pa_cons (pe_bltn (v := .ty "str") (by rfl) W.str (by decide +kernel) rfl) pa_nil)))))
        (pss_one (ps_raiseTwo O GB rfl hr (takes_of rfl rfl rfl rfl) (by rfl) (pa_cons pe_int (pa_cons pe_int pa_nil)))) pss_nil)
      (pss_one (ps_ret (pe_lc (own := [("line", 1)]) (g := gName 1) (tt := tYes) rfl scLines.nd (pi_list (pe_split (pv 0) pe_str)) (blkOk_by (N := ["text", "line"]) (sc := defScope sLines) (by decide +kernel))
        (fun _ _ _ _ _ => pg_name (i := 1) scLines.nd rfl (Or.inl rfl)) (fun _ _ _ _ _ => pts_nil) (fun _ _ _ _ _ => pe_split (pv 1) pe_str)))), ?_⟩
    rcases h with ⟨z, rfl, hz, q⟩ | ⟨t, ty, hk, q⟩
    · refine ⟨_, rfl, _, _, _, _, true, rfl, .ty "str", .base (.str z), kit_str_str, true, rfl, iteF ?_⟩
      refine ⟨_, rfl, ⟨_, rfl⟩, _, _, rfl, rfl, by decide, Nat.le_trans (Nat.add_le_add_right hz 2) (by decide), fun p hp => ?_⟩
      have h1 : 1 ≤ (Txt.split z "\n").length := split_pos z "\n"
      have hn : (Txt.split z "\n").length ≤ z.length + 2 := split_le z "\n"
      have hl : ∀ x ∈ Txt.split z "\n", x.length ≤ 2000 := fun x hx => Nat.le_trans (part_short hx) hz
      have s1 := same_upd0 (o := .lst ((Txt.split z "\n").map V.str)) hp
      have hp1 : (upd H p (.lst ((Txt.split z "\n").map V.str))) p = some (.lst ((Txt.split z "\n").map V.str)) := upd_same
      revert s1 hp1 q h1 hn hl
      generalize Txt.split z "\n" = pages
      generalize upd H p (.lst (pages.map V.str)) = H1
      intro q h1 hn hl s1 hp1
      obtain ⟨p0, ps, rfl⟩ : ∃ p0 ps, pages = p0 :: ps := by
        cases pages with
        | nil => simp at h1
        | cons a r => exact ⟨a, r, rfl⟩
      refine ⟨p, rfl, ⟨_, SqL.of hp1⟩, fun D hD => ?_⟩
      refine lc_it (walk_list (xs := (p0 :: ps).map V.str)) (fun i H' => Same H1 H' ∧ ∃ qs : List Addr, H' D = some (.lst (qs.map V.ref)) ∧ qs.length = i ∧ ∀ q0 r, qs = q0 :: r → q0 ≠ D ∧ H' q0 = some (.lst ((Txt.split p0 " ").map V.str)))
        ⟨same_upd0 hD, [], upd_same, rfl, fun _ _ e => nomatch e⟩ (fun _ _ _ y => SqL.of (y.1 _ _ hp1)) ?_ ?_
      · rintro i x H2 H3 hi ⟨s2, qs, hDi, hlen, h0⟩ ⟨rfl, hx⟩
        rw [List.getElem?_map] at hx
        obtain ⟨wl, hwl, rfl⟩ : ∃ wl, (p0 :: ps)[i]? = some wl ∧ x = .str wl := by
          cases e : (p0 :: ps)[i]? with
          | none => rw [e] at hx; cases hx
          | some m => rw [e] at hx; exact ⟨m, rfl, (Option.some.inj hx).symm⟩
        have hll := hl wl (List.mem_of_getElem? hwl)
        refine ⟨rfl, _, rfl, ⟨_, rfl⟩, _, _, rfl, rfl, by decide, Nat.le_trans (Nat.add_le_add_right hll 2) (by decide), fun q1 hq1 => ?_⟩
        have s3 := same_upd0 (o := .lst ((Txt.split wl " ").map V.str)) hq1
        have nq : q1 ≠ D := (ne_of_none hDi hq1).symm
        refine ⟨_, s3 _ _ hDi, ?_, Same.over (s2.trans s3) hD, qs ++ [q1], ?_, by rw [List.length_append, hlen]; rfl, ?_⟩
        · rw [List.length_map, hlen]
          rw [List.length_map] at hi
          have := sizeLine_eq
          omega
        · rw [upd_same, List.map_append]
          rfl
        · intro q0 r e
          cases qs with
          | nil =>
            have e : [q1] = q0 :: r := e
            cases e
            refine ⟨nq, ?_⟩
            have : i = 0 := by rw [← hlen]; rfl
            subst this
            have : p0 = wl := by simpa using hwl
            rw [this]
            exact (upd_ne nq).trans upd_same
          | cons a b =>
            have e : a :: (b ++ [q1]) = q0 :: r := e
            cases e
            obtain ⟨e1, e2⟩ := h0 _ b rfl
            exact ⟨e1, (upd_ne e1).trans (s3 _ _ e2)⟩
      · rintro H2 ⟨s2, qs, hDi, hlen, h0⟩
        rw [List.length_map] at hlen
        cases qs with
        | nil => simp at hlen
        | cons q0 r =>
          exact q H2 D q0 r p0 ps rfl (s1.trans s2) hDi (by simpa using hlen) (h0 q0 r rfl).2
    · refine ⟨_, rfl, _, _, _, _, false, rfl, .ty "str", ty, hk, false, rfl, iteT ?_⟩
      exact mkTwoV rfl fun d H' s _ e => q d H' s e
def spAlone (K : PySem.W.Frag) (CB : Addr) : Sp := fun vs H Q E => ∃ (a : Addr) (xs : List V), vs = [.ref a] ∧ SqL K H a xs ∧ (xs.length ≤ 1 → Q .non H) ∧ (1 < xs.length → ∀ d H', Same H H' → H' d = some (.xd [("word", .int 0), ("line", .int 1)]) → E (.ref CB) (some d) H')
theorem ok_alone {CB f fB : Addr} {fd fdB : FuncData} (F : Fun K "check_alone" "check_alone" sAlone f fd) (W : Words K mg) (O : TwoE K mg "BadText" "line" "word" CB fB fdB) (GB : FnOk P w K mg base CX0 1 fB fdB ["self", "line", "word"] (spTwoE CB "line" "word")) :
    FnOk P w K mg base (L2.CX P w) 3 f fd ["lines"] (spAlone K CB) := by
  refine F.okX scAlone (fun vs H Q E h => ?_) (fun cdv A outer s H vs Q E hr h => ?_)
  · obtain ⟨a, xs, rfl, _⟩ := h
    rfl
  · obtain ⟨a, xs, rfl, ha, qy, qn⟩ := h
    refine ⟨_, pss_one (ps_if (pt_cmpR op_gt (pe_callB call_len_seq (by rfl) W.len PySem.boot_len (pa_cons (pv 0) pa_nil)) pe_int (nomark _)) (pss_one (ps_raiseTwo O GB rfl hr (takes_of rfl rfl rfl rfl) (by rfl) (pa_cons pe_int (pa_cons pe_int pa_nil)))) pss_nil), ?_⟩
    refine ⟨_, rfl, a, _, rfl, .inl ha, _, _, rfl, rfl, _, rfl, ite2 (fun c => ?_) (fun c => ?_)⟩
    · have c' : (1 : Int) < ((xs.length : Nat) : Int) := of_decide_eq_true c
      exact mkTwoV rfl fun d H' s _ e => qn (by omega) d H' s e
    · have c' : ¬ (1 : Int) < ((xs.length : Nat) : Int) := fun e => c (decide_eq_true e)
      exact qy (by omega)
/-- Entry.read -/
def spRead (K : PySem.W.Frag) (C CB : Addr) : Sp := fun vs H Q E => ∃ v, vs = [.ref C, v] ∧ ((∃ (z p0 : Str) (ps : List Str), v = .str z ∧ z.length ≤ 2000 ∧ Txt.split z "\n" = p0 :: ps ∧
    (∀ b c e : Str, Txt.split p0 " " = [("check" : Str), b, c, ("by" : Str), e] → fw (Txt.split p0 " ") F5 0 = none → ps = [] → ∀ (H' : Hp) (x : Addr), Same H H' → At C H' x b ((numOf c : Nat) : Int) e → Q (.ref x) H') ∧
    (fw (Txt.split p0 " ") F5 0 = none → ps ≠ [] → ∀ d H', Same H H' → H' d = some (.xd [("word", .int 0), ("line", .int 1)]) → E (.ref CB) (some d) H') ∧
    (∀ n : Nat, fw (Txt.split p0 " ") F5 0 = some n → ∀ d H', Same H H' → H' d = some (.xd [("word", .int (n : Nat)), ("line", .int 0)]) → E (.ref CB) (some d) H')) ∨
  (∃ t, TyX K H v t ∧ PySem.W.kitOne K t (.type "str") = some false ∧ ∀ d H', Same H H' → H' d = some (.xd [("word", .int 0), ("line", .int 0)]) → E (.ref CB) (some d) H'))
theorem ok_read {CN CM CB C aK f fI fL fA fT : Addr} {fd fdI fdL fdA fdT : FuncData} (F : Fun K "read" "Entry.read" sRead f fd) (M : Mk K C fI) (bI : Binds K fdI ["self", "tool", "moment", "by"] []) (GI : FnOk P w K mg base (L2.CX P w) 4 fI fdI ["self", "tool", "moment", "by"] (spInit CN CM C))
    (gK : mg "CHECK" = some (.ref aK)) (hK : ∀ H : Hp, SqT K H aK (F5.map V.str))
    (FL : Fun K "lines_of" "lines_of" sLines fL fdL) (bL : Binds K fdL ["text"] []) (gL : mg "lines_of" = some (.ref fL)) (GL : FnOk P w K mg base (L2.CX P w) 3 fL fdL ["text"] (spLines K CB))
    (FA : Fun K "check_alone" "check_alone" sAlone fA fdA) (bA : Binds K fdA ["lines"] []) (gA : mg "check_alone" = some (.ref fA)) (GA : FnOk P w K mg base (L2.CX P w) 3 fA fdA ["lines"] (spAlone K CB))
    (FT : Fun K "told_by" "told_by" sTold fT fdT) (bT : Binds K fdT ["line", "words", "forms"] []) (gT : mg "told_by" = some (.ref fT)) (GT : FnOk P w K mg base (L2.CX P w) 4 fT fdT ["line", "words", "forms"] (spTold K CB)) :
    FnOk P w K mg base (L2.CX P w) 6 f fd ["cls", "text"] (spRead K C CB) := by
  refine F.okX scRead (fun vs H Q E h => ?_) (fun cdv A outer s H vs Q E hr h => ?_)
  · obtain ⟨v, rfl, _⟩ := h
    rfl
  · obtain ⟨v, rfl, h⟩ := h
    have hr3 : Room 3 _ := hr.mono (by decide)
    have hr4 : Room 4 _ := hr.mono (by decide)
    refine ⟨_, pss_cons (ps_set (i := 2) scRead.nd rfl (.inl rfl) (pe_call GL hr3 (by rfl) gL FL.kp bL .nil (passes_call (takes_of rfl rfl rfl rfl) (fun _ _ _ _ h => h)) (pa_cons (pv 1) pa_nil)))
      (pss_cons (ps_asg (pe_call GT hr4 (by rfl) gT FT.kp bT .nil (passes_call (takes_of rfl rfl rfl rfl) (fun _ _ _ _ h => h)) (pa_cons pe_int (pa_cons (pe_ix ix_list (pv 2) pe_int (fun _ _ => rfl)) (pa_cons (pe_glob (v := .ref aK) rfl gK rfl) pa_nil))))
        (pg_lst rfl (pgs_cons (pg_name (i := 3) scRead.nd rfl (Or.inl rfl)) (pgs_cons (pg_name (i := 4) scRead.nd rfl (Or.inl rfl)) (pgs_cons (pg_name (i := 5) scRead.nd rfl (Or.inl rfl)) (pgs_cons (pg_name (i := 3) scRead.nd rfl (Or.inl rfl)) (pgs_cons (pg_name (i := 6) scRead.nd rfl (Or.inl rfl)) pgs_nil)))))))
      (pss_cons (ps_expr (pe_call GA hr3 (by rfl) gA FA.kp bA .nil (passes_call (takes_of rfl rfl rfl rfl) (fun _ _ _ _ h => h)) (pa_cons (pv 2) pa_nil)))
      (pss_one (ps_ret (pe_makeV (i := 0) M GI hr rfl (.inl rfl) bI .nil (passes_call (takes_of rfl rfl rfl rfl) (fun _ _ _ _ h => h)) (pa_cons (pv 4) (pa_cons (pv 5) (pa_cons (pv 6) pa_nil)))))))), ?_⟩
    rcases h with ⟨z, p0, ps, rfl, hz, hsp, qy, q1, qn⟩ | ⟨t, ty, hk, q⟩
    · have hp0 : p0.length ≤ 2000 := Nat.le_trans (part_short (by rw [hsp]; exact List.mem_cons_self : p0 ∈ Txt.split z "\n")) hz
      refine ⟨_, rfl, _, rfl, .inl ⟨z, rfl, hz, fun H1 a q0 qs p0' ps' hsp' s1 ha hl hq => ?_⟩⟩
      rw [hsp] at hsp'
      obtain ⟨rfl, rfl⟩ : p0 = p0' ∧ ps = ps' := by
        simp only [List.cons.injEq] at hsp'
        exact hsp'
      have hz2 : ∀ x ∈ Txt.split p0 " ", x.length ≤ 2000 := fun x hx => Nat.le_trans (part_short hx) hp0
      refine ⟨_, rfl, a, _, _, _, rfl, rfl, SqL.of ha, atI_nat (j := 0) rfl, 0, q0, aK, Txt.split p0 " ", F5, rfl, hq, hK _, fun _ _ => hK _, hz2, by decide, fun hw H3 l s3 nl hl' => ?_, fun n hn d H' s e => qn n hn d H' (s1.trans s) e⟩
      obtain ⟨hlen, hall⟩ := fw_none hw
      obtain ⟨w0, w1, w2, w3, w4, ews⟩ : ∃ w0 w1 w2 w3 w4, Txt.split p0 " " = [w0, w1, w2, w3, w4] := by
        generalize Txt.split p0 " " = ws at hlen
        match ws, hlen with
        | [w0, w1, w2, w3, w4], _ => exact ⟨w0, w1, w2, w3, w4, rfl⟩
      rw [ews, vals5] at hl'
      rw [ews] at hall hz2
      have g0 : w0 = ("check" : Str) := by
        have := hall 0 w0 "check" rfl rfl
        rw [check_form'] at this
        exact of_decide_eq_true this
      have g1 : isName w1 = true := hall 1 w1 "name" rfl rfl
      have g2 : isNum w2 = true := hall 2 w2 "moment" rfl rfl
      have g3 : w3 = ("by" : Str) := by
        have := hall 3 w3 "by" rfl rfl
        rw [by_form'] at this
        exact of_decide_eq_true this
      have g4 : isName w4 = true := hall 4 w4 "name" rfl rfl
      subst g0 g3
      refine ⟨l, _, rfl, SqL.of hl', rfl, _, _, rfl, _, _, rfl, _, _, rfl, _, _, rfl, _, _, rfl, rfl, ?_⟩
      have s13 := s1.trans s3
      have ha3 := s3 _ _ ha
      refine ⟨_, rfl, a, _, rfl, SqL.of ha3, fun hle => ?_, fun hlt d H' s e => ?_⟩
      · have eps : ps = [] := by
          rw [List.length_map, List.length_cons, hl] at hle
          cases ps with
          | nil => rfl
          | cons a b => simp at hle
        have hm : 0 ≤ ((numOf w2 : Nat) : Int) ∧ ((numOf w2 : Nat) : Int) ≤ 1000000000000000000000000000000 := ⟨by omega, (isNum_le g2).2.2.2⟩
        refine ⟨rfl, _, rfl, _, rfl, _, rfl, fun x dx e1 e2 e3 => made1 e1 e2 e3 (.str w1 (hz2 _ (by simp))) (.int _) (.str w4 (hz2 _ (by simp))) (Ways.ok g1 hm g4 fun H' s e => ?_)⟩
        exact qy w1 w2 w4 ews hw eps H' x (s13.trans s) ⟨dx, e⟩
      · refine q1 hw (fun eps => ?_) d H' (s13.trans s) e
        rw [List.length_map, List.length_cons, hl, eps] at hlt
        simp at hlt
    · exact ⟨_, rfl, _, rfl, .inr ⟨t, ty, hk, q⟩⟩
end
end K81

namespace K81
open PySem PySem.Spec PyProof.Rows L2 So TL
/-! ### texts of signs below 128 -/
def asc (z : Str) : Prop := ∀ c ∈ z.cps.toList, c < 128
theorem asc_ok {z : Str} (h : asc z) : PyData.strOk z = true := by
  unfold PyData.strOk
  rw [← Array.all_toList]
  exact List.all_eq_true.mpr fun c hc => decide_eq_true (Nat.lt_trans (h c hc) (by decide))
theorem blank : (" " : Str) = ⟨#[32]⟩ := by decide +kernel
theorem mem_joinL {S : List Nat} {c : Nat} : ∀ {ps : List (List Nat)} {p : List Nat}, p ∈ ps → c ∈ p → c ∈ joinL S ps
  | [], _, h, _ => nomatch h
  | [p], _, h, hc => by
    rw [List.mem_singleton.mp h] at hc
    exact hc
  | p :: q :: r, w, h, hc => by
    show c ∈ p ++ (S ++ joinL S (q :: r))
    rcases List.mem_cons.mp h with e | e
    · exact List.mem_append_left _ (e ▸ hc)
    · exact List.mem_append_right _ (List.mem_append_right _ (mem_joinL e hc))
theorem of_joinL {S : List Nat} {c : Nat} : ∀ {ps : List (List Nat)}, c ∈ joinL S ps → c ∈ S ∨ ∃ p ∈ ps, c ∈ p
  | [], h => nomatch h
  | [p], h => .inr ⟨p, List.mem_singleton.mpr rfl, h⟩
  | p :: q :: r, h => by
    have h : c ∈ p ++ (S ++ joinL S (q :: r)) := h
    rcases List.mem_append.mp h with e | e
    · exact .inr ⟨p, List.mem_cons_self, e⟩
    · rcases List.mem_append.mp e with e | e
      · exact .inl e
      · rcases of_joinL e with e | ⟨w, hw, e⟩
        · exact .inl e
        · exact .inr ⟨w, List.mem_cons_of_mem _ hw, e⟩
theorem split_asc {z w : Str} (h : asc z) (hw : w ∈ Txt.split z " ") : asc w := by
  intro c hc
  refine h c ?_
  have e := StrLaws.join_split z " "
  have e2 : tl (Str.join " " (Txt.split z " ")) = tl z := by rw [e]
  rw [tl_join] at e2
  show c ∈ tl z
  rw [← e2]
  exact mem_joinL (List.mem_map_of_mem hw) hc
theorem join_asc {ws : List Str} (h : ∀ w ∈ ws, asc w) : asc (Txt.join " " ws) := by
  intro c hc
  have hc : c ∈ tl (Txt.join " " ws) := hc
  rw [join_eq, tl_join] at hc
  rcases of_joinL hc with e | ⟨p, hp, e⟩
  · have : tl (" " : Str) = [32] := by decide +kernel
    rw [this] at e
    rw [List.mem_singleton.mp e]
    decide
  · obtain ⟨w, hw, rfl⟩ := List.mem_map.mp hp
    exact h w hw c e
theorem split_weight2 (z : Str) : ((Txt.split z " ").map (·.length)).sum + (Txt.split z " ").length ≤ z.length + 1 := split_weight z " " (by decide)
theorem split_one (z : Str) : 1 ≤ (Txt.split z " ").length := split_pos z " "
theorem join_len (ws : List Str) : (Txt.join " " ws).length ≤ (ws.map (·.length)).sum + ws.length := by
  rw [join_eq]
  cases ws with
  | nil => decide
  | cons a l =>
    rw [len_join_cons, show (" " : Str).length = 1 by decide, List.length_cons]
    omega
/-! ### lists of texts as data -/
theorem dp_strs {K : PySem.W.Frag} {H : Hp} : ∀ zs : List Str, DpAll K H (zs.map V.str) (zs.map PyData.str)
  | [] => .nil
  | z :: r => .cons (.str z) (dp_strs r)
theorem shaped_strs {zs : List Str} (h : ∀ z ∈ zs, PyData.strOk z = true) : SeqAt.shaped (.list (zs.map PyData.str)) = true := by
  unfold SeqAt.shaped
  rw [Bool.and_eq_true]
  refine ⟨?_, decide_eq_true ?_⟩
  · show PyData.canLay0 _ = true
    simp only [PyData.canLay0]
    induction zs with
    | nil => rfl
    | cons a r ih =>
      have h1 := h a List.mem_cons_self
      simpa [PyData.canLayAll0, PyData.canLay0, h1] using ih fun z hz => h z (List.mem_cons_of_mem _ hz)
  · have : PyData.depthAll (zs.map PyData.str) ≤ 1 := by
      clear h
      induction zs with
      | nil => simp [PyData.depthAll]
      | cons a r ih =>
        simp only [List.map_cons, PyData.depthAll, PyData.depth]
        omega
    simp only [PyData.depth]
    omega
/-! ### numbers and their texts -/
theorem str_tl {x y : Str} (h : tl x = tl y) : x = y := ext_tl h
theorem numL_cs : ∀ {cs : List Nat}, NumText.AllDigits cs → cs ≠ [] → (numL (NumText.digitsVal cs) = cs ↔ (cs = [48] ∨ cs.headD 0 ≠ 48))
  | [], _, h => absurd rfl h
  | c :: cs, ha, _ => by
    have back : ∀ l : List Nat, NumText.AllDigits l → (l.map Char.ofNat).map Char.toNat = l := by
      intro l hl
      rw [List.map_map]
      have : l.map (Char.toNat ∘ Char.ofNat) = l.map id := List.map_congr_left fun d hd => by
        have hd2 := hl d hd
        have : ∀ k < 10, (Char.ofNat (48 + k)).toNat = 48 + k := by decide
        have := this (d - 48) (by omega)
        rw [show 48 + (d - 48) = d by omega] at this
        exact this
      rw [this, List.map_id]
    by_cases e : c = 48
    · subst e
      constructor
      · intro h
        left
        have h2 := NumText.toDigits_all (48 :: cs) ha
        unfold numL at h
        rw [h2] at h
        rw [List.dropWhile_cons] at h
        have le : (cs.dropWhile (· == 48)).length ≤ cs.length := (List.dropWhile_sublist _).length_le
        have hl := congrArg List.length h
        cases hd : cs.dropWhile (· == 48) with
        | nil =>
          simp [hd] at hl
          have : cs = [] := by
            cases cs with
            | nil => rfl
            | cons a r => simp at hl
          rw [this]
        | cons a r =>
          rw [hd] at le
          simp [hd] at hl
          simp at le
          omega
      · rintro (h | h)
        · rw [h]
          decide
        · exact absurd rfl h
    · refine ⟨fun _ => .inr e, fun _ => ?_⟩
      have hc := ha.head
      have h2 := NumText.toDigits_digitsVal cs.length (c :: cs) rfl ha (Or.inr ⟨c, cs, rfl, by omega⟩)
      unfold numL
      rw [h2, back _ ha]
theorem num_text {z : Str} (h1 : 1 ≤ z.length) (ha : z.cps.toList.all isDig = true) : (Str.ofString (toString ((numOf z : Nat) : Int)) = z) ↔ (z = ("0" : Str) ∨ z.cps.toList.headD 0 ≠ 48) := by
  have hne : z.cps.toList ≠ [] := fun e => by
    have : z.length = z.cps.toList.length := Array.length_toList.symm
    rw [e] at this
    simp at this
    omega
  have k := numL_cs (all_dig ha) hne
  have e0 : (z = ("0" : Str)) ↔ z.cps.toList = [48] := by
    constructor
    · intro h
      rw [h]
      decide +kernel
    · intro h
      refine str_tl ?_
      show z.cps.toList = _
      rw [h]
      decide +kernel
  rw [e0, ← k]
  constructor
  · intro h
    have := congrArg tl h
    rw [tl_num] at this
    exact this
  · intro h
    refine str_tl ?_
    rw [tl_num]
    exact h
end K81

namespace K81
open PySem PySem.Spec PyProof.Rows L2 So TL
abbrev sLIsName : Stmt := topS 63
abbrev sLIsMom : Stmt := topS 64
abbrev lisN : List Str := ["_law_word", "_law_some", "_law_letters", "_law_sign"]
abbrev lmoN : List Str := ["_law_word", "_law_sign"]
theorem scLIsName : FnScope lisN ["_law_word"] (defScope sLIsName) := ⟨rfl, rfl, rfl, by decide +kernel, rfl, by decide +kernel, by decide +kernel⟩
theorem scLIsMom : FnScope lmoN ["_law_word"] (defScope sLIsMom) := ⟨rfl, rfl, rfl, by decide +kernel, rfl, by decide +kernel, by decide +kernel⟩
/-- the signs of a text that are none of these -/
def offs (p : Nat → Bool) (l : List Nat) : List Str := (l.filter fun c => !p c).map fun c => ⟨#[c]⟩
theorem offs_nil {p : Nat → Bool} : ∀ l : List Nat, (offs p l).isEmpty = l.all p
  | [] => rfl
  | c :: r => by
    have ih := offs_nil (p := p) r
    cases e : p c with
    | true =>
      have : offs p (c :: r) = offs p r := by simp [offs, e]
      rw [this, ih, List.all_cons, e, Bool.true_and]
    | false =>
      have : offs p (c :: r) = ⟨#[c]⟩ :: offs p r := by simp [offs, e]
      rw [this, List.all_cons, e, Bool.false_and]
      rfl
theorem offs_ok {p : Nat → Bool} {z : Str} (h : asc z) : ∀ x ∈ offs p z.cps.toList, PyData.strOk x = true := by
  intro x hx
  obtain ⟨c, hc, rfl⟩ := List.mem_map.mp hx
  have := h c (List.mem_filter.mp hc).1
  refine asc_ok fun d hd => ?_
  have : d = c := by simpa using hd
  rw [this]
  assumption
theorem offs_snoc {p : Nat → Bool} {z : Str} {i c : Nat} (h : z.cps.toList[i]? = some c) : offs p (z.cps.toList.take (i + 1)) = offs p (z.cps.toList.take i) ++ (if p c = true then [] else [⟨#[c]⟩]) := by
  have et : z.cps.toList.take (i + 1) = z.cps.toList.take i ++ [c] := by rw [List.take_add_one, h]; rfl
  rw [et]
  unfold offs
  rw [List.filter_append, List.map_append]
  congr 1
  cases e : p c with
  | true => simp [e]
  | false => simp [e]
theorem offs_len {p : Nat → Bool} (l : List Nat) (i : Nat) : (offs p (l.take i)).length ≤ l.length := by
  unfold offs
  rw [List.length_map]
  refine Nat.le_trans (List.length_filter_le _ _) ?_
  rw [List.length_take]
  omega
section
variable {P : Program} {w : World} {K : PySem.W.Frag} {mg : Str → Option Value} {base : Heap}
def spLIsName : Sp := fun vs H Q _ => ∃ z : Str, vs = [.str z] ∧ z.length ≤ 2000 ∧ asc z ∧ ∀ H', Same H H' → Q (.bl (isName z)) H'
theorem ok_lisName {f : Addr} {fd : FuncData} (F : Fun K "_law_is_name" "_law_is_name" sLIsName f fd) (ml : mg "len" = none) :
    FnOk P w K mg base CX0 1 f fd ["_law_word"] spLIsName := by
  refine F.ok scLIsName (fun vs H Q E h => ?_) (fun cdv A outer s H vs Q E hr h => ?_)
  · obtain ⟨z, rfl, _⟩ := h
    rfl
  · obtain ⟨z, rfl, hz, ha, q⟩ := h
    refine ⟨_, pss_cons (ps_set (i := 1) scLIsName.nd rfl (.inl rfl) (pe_lst (pa_cons pe_str (pa_cons pe_str (pa_cons pe_str (pa_cons pe_str (pa_cons pe_str (pa_cons pe_str (pa_cons pe_str (pa_cons pe_str (pa_cons pe_str (pa_cons pe_str pa_nil))))))))))))
      (C8.pss_cut (ps_set (i := 1) scLIsName.nd rfl (.inl rfl) (pe_op op_cat (pv 1) (pe_lst (pa_cons pe_str (pa_cons pe_str (pa_cons pe_str (pa_cons pe_str (pa_cons pe_str (pa_cons pe_str (pa_cons pe_str (pa_cons pe_str (pa_cons pe_str (pa_cons pe_str pa_nil)))))))))))))
      (pss_cons (ps_set (i := 2) scLIsName.nd rfl (.inr rfl) pe_str)
      (pss_cons (ps_if (PW.pt (pw_or (pt_not (pt_chain op_le op_le pe_int (pe_callB call_len_str (by rfl) ml PySem.boot_len (pa_cons (pv 0) pa_nil)) pe_int))
          (pw_or (pt_cmpR op_notIn_sign (pe_ix ix_str (pv 0) pe_int (fun _ _ => rfl)) (pv 2) (by rfl)) (pw_or1 (pt_cmpR op_in_seq (pv 0) (pv 1) (by rfl)))))) (pss_one (ps_ret pe_bl)) pss_nil)
      (pss_one (ps_ret (pe_cmpR (op_eqD (by have := hr.units; exact this)) (pe_lc (own := [("_law_sign", 3)]) (g := gName 3) rfl scLIsName.nd (pi_str (pv 0)) (blkOk_by (N := lisN) (sc := defScope sLIsName) (by decide +kernel))
        (fun _ _ _ _ _ => pg_name (i := 3) scLIsName.nd rfl (Or.inl rfl)) (fun _ _ _ _ _ => pts_one (pt_cmpR op_notIn_sign (pv 3) (pe_op op_add_str (pv 2) pe_str) (by rfl))) (fun _ _ _ _ _ => pv 3)) (pe_lst pa_nil) (nomark _))))))), ?_⟩
    have hzl : z.length ≤ sizeLine := Nat.le_trans hz (by decide)
    refine ⟨by show 10 ≤ sizeLine; decide, fun a1 h1 => ?_⟩
    refine ⟨fun σ' G => ∃ aW, σ' = [some (.str z), some (.ref aW), none, none] ∧ Same H G ∧ G aW = some (.lst (noNames.map V.str)), ?_, ?_⟩
    · refine ⟨_, rfl, by show 10 ≤ sizeLine; decide, fun a2 h2 => ⟨a1, a2, _, _, rfl, rfl, same_upd0 h2 _ _ upd_same, upd_same, by show 20 ≤ sizeLine; decide, fun aW hW => ⟨aW, rfl, (same3 h1 h2 hW).1, upd_same⟩⟩⟩
    rintro σ' H4 ⟨aW, rfl, s4, hH4⟩
    have no : isName z = false → ∀ H', Same H H' → Q (.bl false) H' := fun e H' s => by
      have := q H' s
      rw [e] at this
      exact this
    refine ⟨_, rfl, _, rfl, hzl, _, _, rfl, rfl, _, rfl, ite2 (fun c1 => ?_) (fun c1 => ⟨_, rfl, iteT (no ?_ H4 s4)⟩)⟩
    case refine_2 =>
      have c1' : ¬ (1 : Int) ≤ ((z.length : Nat) : Int) := fun e => c1 (decide_eq_true e)
      unfold isName
      rw [show decide (1 ≤ z.length) = false from decide_eq_false (by omega)]
      rfl
    have c1' : (1 : Int) ≤ ((z.length : Nat) : Int) := of_decide_eq_true c1
    refine ⟨_, _, rfl, rfl, _, rfl, ?_⟩
    by_cases c2 : ((z.length : Nat) : Int) ≤ 8
    case neg =>
      rw [decide_eq_false c2]
      refine iteT (no ?_ H4 s4)
      unfold isName
      rw [show decide (z.length ≤ 8) = false from decide_eq_false (by omega), Bool.and_false]
      rfl
    rw [decide_eq_true c2]
    have hz0 : 0 < z.cps.toList.length := by
      have : z.length = z.cps.toList.length := Array.length_toList.symm
      omega
    obtain ⟨c0, cr, hc⟩ : ∃ c0 cr, z.cps.toList = c0 :: cr := by
      cases e : z.cps.toList with
      | nil => rw [e] at hz0; cases hz0
      | cons a r => exact ⟨a, r, rfl⟩
    have e1 : decide (1 ≤ z.length) = true := decide_eq_true (by omega)
    have e2 : decide (z.length ≤ 8) = true := decide_eq_true (by omega)
    have e3 : isName z = (!(noNames.contains z) && decide (c0 ∈ letters.cps.toList) && z.cps.toList.all isAln) := by
      unfold isName
      rw [e1, e2, hc]
      rfl
    refine iteF ⟨_, rfl, _, _, c0, rfl, rfl, hzl, ?_, _, rfl, _, _, rfl, rfl, _, rfl, ?_⟩
    · rw [hc]
      exact atI_nat (j := 0) rfl
    have el : (("abcdefghijklmnopqrstuvwxyz" : Str)) = letters := rfl
    by_cases c4 : c0 ∈ letters.cps.toList
    case neg =>
      rw [el, decide_eq_false c4]
      refine iteT (no ?_ H4 s4)
      rw [e3, decide_eq_false c4, Bool.and_false, Bool.false_and]
    rw [el, decide_eq_true c4]
    refine iteF ⟨_, rfl, _, rfl, aW, _, rfl, .inl (SqL.of hH4), rfl, flat_strs _, ?_⟩
    rw [show (if false = true then !inV (V.str z) (noNames.map V.str) else inV (V.str z) (noNames.map V.str)) = noNames.contains z from inV_strs z noNames]
    refine ⟨_, rfl, ?_⟩
    cases c3 : noNames.contains z with
    | true =>
      refine iteT (no ?_ H4 s4)
      rw [e3, c3]
      rfl
    | false =>
      refine iteF ?_
      refine ⟨_, rfl, _, rfl, fun D hD => lc_it walk_str (fun i H' => H' D = some (.lst ((offs isAln (z.cps.toList.take i)).map V.str)) ∧ Same H4 H') ⟨?_, ?_⟩ (fun _ _ _ _ => trivial) ?_ ?_⟩
      · exact upd_same
      · exact same_upd0 hD
      · rintro i x H1 H2 hi ⟨h1, s1⟩ ⟨rfl, c, hc1, rfl⟩
        have hc2 : z.cps.toList[i]? = some c := by
          rw [Array.getElem?_toList]
          exact hc1
        refine ⟨rfl, _, rfl, _, rfl, _, _, rfl, rfl, by decide, c, _, rfl, rfl, _, rfl, ite2 (fun c5 => ?_) (fun c5 => ?_)⟩
        · have c5' : isAln c = false := by
            have h : (!isAln c) = true := c5
            simpa using h
          refine ⟨_, rfl, _, h1, ?_, ?_, Same.over s1 hD⟩
          · rw [List.length_map]
            refine Nat.lt_of_le_of_lt (offs_len _ _) ?_
            rw [Array.length_toList]
            exact Nat.lt_of_le_of_lt (show z.cps.size ≤ 2000 from hz) (by decide)
          · rw [upd_same, offs_snoc hc2, if_neg (by rw [c5']; exact Bool.false_ne_true), List.map_append]
            rfl
        · have c5' : isAln c = true := by
            have h : ¬ (!isAln c) = true := c5
            simpa using h
          refine ⟨?_, s1⟩
          rw [offs_snoc hc2, if_pos c5', List.append_nil]
          exact h1
      · rintro H1 ⟨h1, s1⟩
        rw [List.take_of_length_le (by rw [Array.length_toList]; exact Nat.le_refl _)] at h1
        refine ⟨Nat.zero_le _, fun p hp => ?_⟩
        have s2 := same_upd0 (o := .lst []) hp
        refine ⟨.list ((offs isAln z.cps.toList).map PyData.str), .list [], .lst (SqL.of (s2 _ _ h1)) (dp_strs _), .lst (SqL.of upd_same) .nil, shaped_strs (offs_ok ha), by decide, ?_⟩
        rw [eqv_nil]
        have q1 := q _ ((s4.trans s1).trans s2)
        rw [e3, c3, decide_eq_true c4] at q1
        have : ((offs isAln z.cps.toList).map PyData.str).isEmpty = z.cps.toList.all isAln := by
          rw [List.isEmpty_map, offs_nil]
        rw [this]
        exact q1
end
theorem val_lt : ∀ (cs : List Nat) (a : Nat), NumText.AllDigits cs → cs.foldl (fun acc c => acc * 10 + (c - 48)) a < (a + 1) * 10 ^ cs.length
  | [], a, _ => by simp
  | c :: cs, a, h => by
    have ih := val_lt cs (a * 10 + (c - 48)) h.tail
    have hc := h.head
    rw [List.foldl_cons, List.length_cons, Nat.pow_succ]
    refine Nat.lt_of_lt_of_le ih ?_
    have : (a * 10 + (c - 48) + 1) * 10 ^ cs.length ≤ ((a + 1) * 10) * 10 ^ cs.length := Nat.mul_le_mul_right _ (by omega)
    calc _ ≤ ((a + 1) * 10) * 10 ^ cs.length := this
      _ = (a + 1) * (10 ^ cs.length * 10) := by rw [Nat.mul_assoc, Nat.mul_comm 10]
theorem num_small {cs : List Nat} (h : NumText.AllDigits cs) (hl : cs.length ≤ 31) : NumText.digitsVal cs < 2 ^ 120 := by
  have h1 := val_lt cs 0 h
  have h2 : 10 ^ cs.length ≤ 10 ^ 31 := Nat.pow_le_pow_right (by decide) hl
  unfold NumText.digitsVal
  have : (10 : Nat) ^ 31 < 2 ^ 120 := by decide
  omega
theorem isNum_text {z : Str} (h1 : 1 ≤ z.length) (h2 : z.length ≤ 31) (ha : z.cps.toList.all isDig = true) : isNum z = (decide (Str.ofString (toString ((numOf z : Nat) : Int)) = z) && decide (((numOf z : Nat) : Int) ≤ 1000000000000000000000000000000)) := by
  have k := num_text h1 ha
  unfold isNum
  rw [decide_eq_true h1, decide_eq_true h2, ha]
  by_cases e0 : z = ("0" : Str)
  · have : Str.ofString (toString ((numOf z : Nat) : Int)) = z := k.mpr (.inl e0)
    rw [decide_eq_true this, decide_eq_true e0, e0, zero_num]
    decide
  · rw [decide_eq_false e0]
    by_cases e1 : z.cps.toList.headD 0 ≠ 48
    · rw [decide_eq_true (k.mpr (.inr e1)), decide_eq_true e1]
      rfl
    · rw [decide_eq_false e1, decide_eq_false (fun h => (k.mp h).elim e0 e1)]
      rfl
end K81

/-! C.m(), m static -/
namespace So
open PySem PySem.Spec PyProof.Rows L2
section
variable {X : Cx} {CX : CXT} {k : Nat} {C f p0 : Addr} {mc : Value} {fd : FuncData} {sp : Sp} {E : XK} {m : Str} {pos apos : Pos} {o : Expr} {ta : TE}
theorem pe_sta0 {pl : Sem Bool} (he : PE X o ta) (S : Sta X.K C mc m p0 f) (F : FnOk X.prog X.w X.K X.mg X.base CX k f fd [] sp) (hr : Room k X.A) (hb : Binds X.K fd [] []) (hx : Passes CX X E)
    (ht : eval (.Call (.Attribute o m apos) [] [] pos) X.env = (do
      let ov ← eval o X.env
      standAt apos.atName
      let fx ← holding [ov] (getMethod ov m pl)
      callWith pos fx.1 fx.2 (backTo pos (starEach [] X.env)) (backToKw pos (keywordEach [] X.env))) := by rfl) :
    PE X (.Call (.Attribute o m apos) [] [] pos) (fun σ H Q => ta σ H fun x H1 => x = .ref C ∧ sp [] H1 Q E) := by
  constructor
  intro pins s σ H Q I h
  refine PySem.W.methodCall_KW (pl := pl) (thn (he.run pins s σ H _ I h) fun u s1 z => ?_) ht
  obtain ⟨x, H1, I1, rx, rfl, q⟩ := z
  cases rx
  refine getsta_ok I1 S fun s2 I2 => PySem.W.callWith_K0 (first := []) I2.kIn S.kp ?_
  exact run_fn (vs := []) (us := []) (dvs := []) (ds := []) F hr hb .nil hx I2 .nil q
end
end So

namespace So
open PySem PySem.Spec PyProof.Rows L2
/-! a statement that is never come to -/
def tDead : TS := fun _ _ _ => False
theorem ps_dead {X : Cx} {st : Stmt} : PS X st tDead := ⟨fun _ _ _ _ _ _ h => h.elim⟩
theorem pss_dead {X : Cx} {st : List Stmt} : PSs X st tDead := ⟨fun _ _ _ _ _ _ h => h.elim⟩
def tDeadE : TE := fun _ _ _ => False
theorem pe_dead {X : Cx} {e : Expr} : PE X e tDeadE := ⟨fun _ _ _ _ _ _ h => h.elim⟩
end So

namespace K81
open PySem PySem.Spec PyProof.Rows L2 So
abbrev sPInit : Stmt := inClass (topS 54) 0
abbrev sPPass : Stmt := inClass (topS 54) 1
abbrev sPFail : Stmt := inClass (topS 54) 2
abbrev sPDone : Stmt := inClass (topS 54) 3
abbrev sPAsk : Stmt := inClass (topS 54) 4
theorem scPInit : FnScope ["self", "entry", "passed", "failed"] ["self", "entry", "passed", "failed"] (defScope sPInit) := ⟨rfl, rfl, rfl, by decide +kernel, rfl, by decide +kernel, by decide +kernel⟩
theorem scPPass : FnScope ["self"] ["self"] (defScope sPPass) := ⟨rfl, rfl, rfl, by decide +kernel, rfl, by decide +kernel, by decide +kernel⟩
theorem scPFail : FnScope ["self"] ["self"] (defScope sPFail) := ⟨rfl, rfl, rfl, by decide +kernel, rfl, by decide +kernel, by decide +kernel⟩
theorem scPDone : FnScope [] [] (defScope sPDone) := ⟨rfl, rfl, rfl, by decide +kernel, rfl, by decide +kernel, by decide +kernel⟩
theorem scPAsk : FnScope ["entry", "passed", "failed", "at", "branch"] ["entry", "passed", "failed"] (defScope sPAsk) := ⟨rfl, rfl, rfl, by decide +kernel, rfl, by decide +kernel, by decide +kernel⟩
/-! ### plans -/
inductive Pl where
  | none
  | done
  | ask (z : Str) (m : Int) (y : Str) (p f : Pl)
  deriving DecidableEq
/-- the attributes of a plan -/
def pf (e p f : V) : List (Str × V) := [("entry", e), ("_passed", p), ("_failed", f)]
theorem pf_put (e p f : V) : putF "_failed" f (putF "_passed" p (putF "entry" e [])) = pf e p f := by
  have e1 : ¬ (("entry" : Str) = "_passed") := by decide +kernel
  have e2 : ¬ (("entry" : Str) = "_failed") := by decide +kernel
  have e3 : ¬ (("_passed" : Str) = "_failed") := by decide +kernel
  simp [putF, pf, e1, e2, e3]
theorem pf_entry (e p f : V) : (pf e p f).lookup ("entry" : Str) = some e := by
  simp [pf, List.lookup]
theorem pf_passed (e p f : V) : (pf e p f).lookup ("_passed" : Str) = some p := by
  have e1 : (("_passed" : Str) == "entry") = false := by decide +kernel
  simp [pf, List.lookup, e1]
theorem pf_failed (e p f : V) : (pf e p f).lookup ("_failed" : Str) = some f := by
  have e1 : (("_failed" : Str) == "entry") = false := by decide +kernel
  have e2 : (("_failed" : Str) == "_passed") = false := by decide +kernel
  simp [pf, List.lookup, e1, e2]
/-- what the top says of the class Plan, at C -/
structure Pln (K : PySem.W.Frag) (mg : Str → Option Value) (C : Addr) : Prop where
  cl : Cls K C
  nE : NoAttr K C "entry"
  nP : NoAttr K C "_passed"
  nF : NoAttr K C "_failed"
  mgC : mg "Plan" = some (.ref C)
  ha : PySem.W.findIn K (.ref C) "__class__" = some (some (.builtin "object.__class__"))
  hn : PySem.W.specialIn K (.builtin "object.__class__") "__get__" = some (some (.builtin "getset_descriptor.__get__"))
  htk : PySem.W.takesIn K (.builtin "object.__class__") = some true
  hm : PySem.W.mroIn K C (.type "object") = some true
  me : PySem.W.kitOne K (.ref C) (.ref C) = some true
  nf : PySem.W.notFirst K C (.ref C) = true
  no : ∀ T, T ∈ ["tuple", "str", "NoneType", "int", "bool", "list", "dict"] → PySem.W.kitOne K (.type T) (.ref C) = some false ∧ PySem.W.notFirst K C (.type T) = true
/-- v stands for the plan -/
def PlAt (CE C : Addr) (H : Hp) : V → Pl → Prop
  | v, .none => v = .non
  | v, .done => ∃ a dx, v = .ref a ∧ H a = some (.ins C dx (pf .non .non .non))
  | v, .ask z m y p f => ∃ a dx e vp vf, v = .ref a ∧ H a = some (.ins C dx (pf (.ref e) vp vf)) ∧ At CE H e z m y ∧ PlAt CE C H vp p ∧ PlAt CE C H vf f
theorem PlAt.keep {CE C : Addr} {H H' : Hp} (s : ∀ a D d fs, H a = some (.ins D d fs) → H' a = some (.ins D d fs)) : ∀ {pl : Pl} {v : V}, PlAt CE C H v pl → PlAt CE C H' v pl
  | .none, _, h => h
  | .done, _, ⟨a, dx, e, h⟩ => ⟨a, dx, e, s _ _ _ _ h⟩
  | .ask _ _ _ _ _, _, ⟨a, dx, e, vp, vf, ev, h, ⟨de, he⟩, hp, hf⟩ => ⟨a, dx, e, vp, vf, ev, s _ _ _ _ h, ⟨de, s _ _ _ _ he⟩, PlAt.keep s hp, PlAt.keep s hf⟩
theorem PlAt.same {CE C : Addr} {H H' : Hp} {pl : Pl} {v : V} (h : PlAt CE C H v pl) (s : Same H H') : PlAt CE C H' v pl := h.keep fun a _ _ _ e => s a _ e
theorem PlAt.off {CE C p : Addr} {H H' : Hp} {pl : Pl} {v : V} {xs : List V} (h : PlAt CE C H v pl) (hp : H p = some (.lst xs)) (s : Off p H H') : PlAt CE C H' v pl := h.keep fun a _ _ _ e => s a _ (fun z => by rw [z, hp] at e; cases e) e
/-- the arguments of an entry -/
structure EOk (z : Str) (m : Int) (y : Str) : Prop where
  z : isName z = true
  m : 0 ≤ m ∧ m ≤ 1000000000000000000000000000000
  y : isName y = true
def Pl.Ok : Pl → Prop
  | .none => True
  | .done => True
  | .ask z m y p f => EOk z m y ∧ ¬ (p = .none ∧ f = .none) ∧ p.Ok ∧ f.Ok
def Pl.depth : Pl → Nat
  | .none => 0
  | .done => 0
  | .ask _ _ _ p f => max p.depth f.depth + 1
theorem PlAt.ty {CE C : Addr} {K : PySem.W.Frag} {mg : Str → Option Value} (T : Pln K mg C) {H : Hp} {v : V} : ∀ {pl : Pl}, PlAt CE C H v pl → (pl = .none ∧ v = .non) ∨ (pl ≠ .none ∧ v ≠ .non ∧ (∃ a dx fs, v = .ref a ∧ H a = some (.ins C dx fs)) ∧ TyX K H v (.ref C))
  | .none, h => .inl ⟨rfl, h⟩
  | .done, ⟨a, dx, e, h⟩ => .inr ⟨(fun z => by cases z), (fun z => by rw [e] at z; cases z), ⟨a, dx, _, e, h⟩, by rw [e]; exact .base (.ins h T.cl T.ha T.hn T.htk T.hm)⟩
  | .ask _ _ _ _ _, ⟨a, dx, _, _, _, e, h, _⟩ => .inr ⟨(fun z => by cases z), (fun z => by rw [e] at z; cases z), ⟨a, dx, _, e, h⟩, by rw [e]; exact .base (.ins h T.cl T.ha T.hn T.htk T.hm)⟩
section
variable {P : Program} {w : World} {K : PySem.W.Frag} {mg : Str → Option Value} {base : Heap}
def spPInit (C : Addr) : Sp := fun vs H Q _ => ∃ (x dx : Addr) (e p f : V), vs = [.ref x, e, p, f] ∧ H x = some (.ins C dx []) ∧ ∀ H', Off x H H' → H' x = some (.ins C dx (pf e p f)) → Q .non H'
theorem ok_pinit {f C : Addr} {fd : FuncData} (F : Fun K "__init__" "Plan.__init__" sPInit f fd) (T : Pln K mg C) : FnOk P w K mg base CX0 1 f fd ["self", "entry", "passed", "failed"] (spPInit C) := by
  refine F.ok scPInit (fun vs H Q E h => ?_) (fun cdv A outer s H vs Q E hr h => ?_)
  · obtain ⟨_, _, _, _, _, rfl, _⟩ := h
    rfl
  · obtain ⟨x, dx, e, p, f, rfl, hx, q⟩ := h
    refine ⟨_, pss_cons (ps_fld (pv 0) (pv 1) rfl) (pss_cons (ps_fld (pv 0) (pv 2) rfl) (pss_one (ps_fld (pv 0) (pv 3) rfl))), ?_⟩
    refine ⟨_, rfl, _, rfl, x, C, dx, [], rfl, hx, T.cl, T.nE, (by show 0 < 1000; decide), ?_⟩
    refine ⟨_, rfl, _, rfl, x, C, dx, _, rfl, upd_same, T.cl, T.nP, (by show 1 < 1000; decide), ?_⟩
    refine ⟨_, rfl, _, rfl, x, C, dx, _, rfl, upd_same, T.cl, T.nF, ?_, ?_⟩
    · exact Nat.lt_of_le_of_lt (length_putF _ _ _) (by show 1 + 1 < 1000; decide)
    · refine q _ (fun c o n e => ?_) ?_
      · rw [upd_ne n, upd_ne n, upd_ne n]
        exact e
      · rw [upd_same, pf_put]
theorem same2 {H1 : Hp} {x dx : Addr} {o : HO} (hx : H1 x = none) (hd : H1 dx = none) : Same H1 (upd (upd H1 dx (.own x)) x o) := fun c u e => by
  rw [upd_ne (ne_of_none e hx), upd_ne (ne_of_none e hd)]
  exact e
theorem madeP {C x dx : Addr} {e p f : V} {H1 : Hp} {Q3 : VK} {E : XK} (hx : H1 x = none) (hd : H1 dx = none) (ne : dx ≠ x) (h : ∀ (H' : Hp), Same H1 H' → H' x = some (.ins C dx (pf e p f)) → Q3 .non H') :
    spPInit C [.ref x, e, p, f] (upd (upd H1 dx (.own x)) x (.ins C dx [])) Q3 E :=
  ⟨x, dx, e, p, f, rfl, upd_same, fun H' o k => h H' (fun c u k2 => o c u (ne_of_none k2 hx) (same2 hx hd c u k2)) k⟩
/-- the properties -/
def spPPass (C : Addr) : Sp := fun vs H Q _ => ∃ (a dx : Addr) (e p f : V), vs = [.ref a] ∧ H a = some (.ins C dx (pf e p f)) ∧ Q p H
theorem ok_ppass {f C : Addr} {fd : FuncData} (F : Fun K "passed" "Plan.passed" sPPass f fd) (T : Pln K mg C) : FnOk P w K mg base CX0 1 f fd ["self"] (spPPass C) := by
  refine F.ok scPPass (fun vs H Q E h => ?_) (fun cdv A outer s H vs Q E hr h => ?_)
  · obtain ⟨_, _, _, _, _, rfl, _⟩ := h
    rfl
  · obtain ⟨a, dx, e, p, f, rfl, ha, q⟩ := h
    exact ⟨_, pss_one (ps_ret (pe_fld (pv 0) rfl)), _, rfl, a, C, dx, _, _, rfl, ha, T.cl, T.nP, pf_passed _ _ _, q⟩
def spPFail (C : Addr) : Sp := fun vs H Q _ => ∃ (a dx : Addr) (e p f : V), vs = [.ref a] ∧ H a = some (.ins C dx (pf e p f)) ∧ Q f H
theorem ok_pfail {f C : Addr} {fd : FuncData} (F : Fun K "failed" "Plan.failed" sPFail f fd) (T : Pln K mg C) : FnOk P w K mg base CX0 1 f fd ["self"] (spPFail C) := by
  refine F.ok scPFail (fun vs H Q E h => ?_) (fun cdv A outer s H vs Q E hr h => ?_)
  · obtain ⟨_, _, _, _, _, rfl, _⟩ := h
    rfl
  · obtain ⟨a, dx, e, p, f, rfl, ha, q⟩ := h
    exact ⟨_, pss_one (ps_ret (pe_fld (pv 0) rfl)), _, rfl, a, C, dx, _, _, rfl, ha, T.cl, T.nF, pf_failed _ _ _, q⟩
def spPDone (CE C : Addr) : Sp := fun vs H Q _ => vs = [] ∧ ∀ (H' : Hp) (v : V), Same H H' → PlAt CE C H' v .done → Q v H'
theorem ok_pdone {f C CE fI : Addr} {fd fdI : FuncData} (F : Fun K "done" "Plan.done" sPDone f fd) (T : Pln K mg C) (M : Mk K C fI) (bI : Binds K fdI ["self", "entry", "passed", "failed"] []) (GI : FnOk P w K mg base CX0 1 fI fdI ["self", "entry", "passed", "failed"] (spPInit C)) : FnOk P w K mg base CX0 3 f fd [] (spPDone CE C) := by
  refine F.ok scPDone (fun vs H Q E h => ?_) (fun cdv A outer s H vs Q E hr h => ?_)
  · obtain ⟨rfl, _⟩ := h
    rfl
  · obtain ⟨rfl, q⟩ := h
    refine ⟨_, pss_one (ps_ret (pe_make M GI hr (by rfl) T.mgC bI .nil pass0 (pa_cons pe_non (pa_cons pe_non (pa_cons pe_non pa_nil))))), ?_⟩
    exact fun x dx e1 e2 e3 => madeP e1 e2 e3 fun H' s h => ⟨rfl, q H' (.ref x) s ⟨x, dx, rfl, h⟩⟩
def spPAsk (CE C : Addr) : Sp := fun vs H Q _ => ∃ (e : Addr) (z y : Str) (m : Int) (vp vf : V) (p f : Pl), vs = [.ref e, vp, vf] ∧ At CE H e z m y ∧ PlAt CE C H vp p ∧ PlAt CE C H vf f ∧ ¬ (p = .none ∧ f = .none) ∧
  ∀ (H' : Hp) (v : V), Same H H' → PlAt CE C H' v (.ask z m y p f) → Q v H'
theorem ok_pask {f C CE fI : Addr} {fd fdI : FuncData} (F : Fun K "ask" "Plan.ask" sPAsk f fd) (W : Words K mg) (TE : Ent K mg CE) (T : Pln K mg C) (M : Mk K C fI) (bI : Binds K fdI ["self", "entry", "passed", "failed"] []) (GI : FnOk P w K mg base CX0 1 fI fdI ["self", "entry", "passed", "failed"] (spPInit C)) : FnOk P w K mg base CX0 3 f fd ["entry", "passed", "failed"] (spPAsk CE C) := by
  refine F.ok scPAsk (fun vs H Q E h => ?_) (fun cdv A outer s H vs Q E hr h => ?_)
  · obtain ⟨_, _, _, _, _, _, _, _, rfl, _⟩ := h
    rfl
  · obtain ⟨e, z, y, m, vp, vf, p, f, rfl, ⟨de, he⟩, hp, hf, hpf, q⟩ := h
    refine ⟨_, pss_cons (ps_if (pt_not (pt_val (pe_callB call_isi (by rfl) W.isi (by decide +kernel) (pa_cons (pv 0) (pa_cons (pe_glob (v := .ref CE) rfl TE.mgC rfl) pa_nil))))) (pss_one ps_dead) pss_nil)
      (pss_cons (ps_for PassesOwn.never rfl (pi_tup (pe_tup (pa_cons (pe_tup (pa_cons pe_int (pa_cons (pv 1) pa_nil))) (pa_cons (pe_tup (pa_cons pe_int (pa_cons (pv 2) pa_nil))) pa_nil)))) (pg_tup rfl (pgs_cons (pg_name (i := 3) scPAsk.nd rfl (Or.inl rfl)) (pgs_cons (pg_name (i := 4) scPAsk.nd rfl (Or.inl rfl)) pgs_nil)))
        (pss_one (ps_if (PW.pt (pw_and (pt_cmpR op_notN (pv 4) pe_non (nomark _)) (pw_and1 (pt_not (pt_val (pe_callB call_isi (by rfl) W.isi (by decide +kernel) (pa_cons (pv 4) (pa_cons (pe_glob (v := .ref C) rfl T.mgC rfl) pa_nil)))))))) (pss_one ps_dead) pss_nil)))
      (pss_cons (ps_if (PW.pt (pw_and (pt_cmpR op_isN (pv 1) pe_non (nomark _)) (pw_and1 (pt_cmpR op_isN (pv 2) pe_non (nomark _))))) (pss_one ps_dead) pss_nil)
      (pss_one (ps_ret (pe_make M GI hr (by rfl) T.mgC bI .nil pass0 (pa_cons (pv 0) (pa_cons (pv 1) (pa_cons (pv 2) pa_nil)))))))), ?_⟩
    refine ⟨_, rfl, _, _, _, _, true, rfl, .own CE, .base (.ins he TE.cl TE.ha TE.hn TE.htk TE.hm), TE.me, true, rfl, iteF ?_⟩
    refine ⟨_, rfl, by show 2 ≤ sizeLine; decide, fun t1 h1 => ⟨_, rfl, by show 2 ≤ sizeLine; decide, fun t2 h2 => ⟨by show 2 ≤ sizeLine; decide, fun t3 h3 => ?_⟩⟩⟩
    have s1 := same_upd0 (o := .tup [.int 1, vp]) h1
    have s2 := same_upd0 (o := .tup [.int 2, vf]) h2
    have s3 := same_upd0 (o := .tup [.ref t1, .ref t2]) h3
    have g1 := s3 _ _ (s2 _ _ (upd_same (H := H) (a := t1) (o := .tup [.int 1, vp])))
    have g2 := s3 _ _ (upd_same (H := upd H t1 (.tup [.int 1, vp])) (a := t2) (o := .tup [.int 2, vf]))
    have g3 := upd_same (H := upd (upd H t1 (.tup [.int 1, vp])) t2 (.tup [.int 2, vf])) (a := t3) (o := .tup [.ref t1, .ref t2])
    have sA := (s1.trans s2).trans s3
    generalize upd (upd (upd H t1 (.tup [.int 1, vp])) t2 (.tup [.int 2, vf])) t3 (.tup [.ref t1, .ref t2]) = H3 at g1 g2 g3 sA
    refine ⟨t3, rfl, ⟨_, SqT.of g3⟩, for_it (walk_tup (K := K) (a := t3) (xs := [.ref t1, .ref t2])) (fun i σ H' => (∃ x3 x4, σ = [some (.ref e), some vp, some vf, x3, x4]) ∧ Same H3 H') ⟨⟨_, _, rfl⟩, Same.refl _⟩ (fun _ _ _ _ y => SqT.of (y.2 _ _ g3)) ?_ ?_⟩
    · rintro i y σ H5 H4 hi ⟨⟨x3, x4, rfl⟩, s4⟩ ⟨rfl, hy⟩
      obtain ⟨t, k, b, pl, rfl, ht, hb⟩ : ∃ (t : Addr) (k : Int) (b : V) (pl : Pl), y = .ref t ∧ H4 t = some (.tup [.int k, b]) ∧ PlAt CE C H4 b pl := by
        match i, hy with
        | 0, hy => exact ⟨t1, 1, vp, p, (Option.some.inj hy).symm, s4 _ _ g1, (hp.same sA).same s4⟩
        | 1, hy => exact ⟨t2, 2, vf, f, (Option.some.inj hy).symm, s4 _ _ g2, (hf.same sA).same s4⟩
      refine ⟨t, _, rfl, SqT.of ht, rfl, _, _, rfl, _, _, rfl, rfl, ?_⟩
      refine ⟨_, rfl, rfl, _, rfl, ?_⟩
      rcases hb.ty T (K := K) with ⟨_, rfl⟩ | ⟨_, nb, _, ty⟩
      · rw [show (!decide (V.non = V.non)) = false by rw [decide_eq_true rfl]; rfl]
        exact iteF (iteF ⟨⟨_, _, rfl⟩, s4⟩)
      · rw [decide_eq_false nb]
        refine iteT ⟨_, rfl, _, _, _, _, true, rfl, .own C, ty, T.me, true, rfl, iteF ⟨⟨_, _, rfl⟩, s4⟩⟩
    · rintro σ H4 ⟨⟨x3, x4, rfl⟩, s4⟩
      have s04 := sA.trans s4
      have mk : ∀ (Q3 : VK) (E3 : XK), (∀ (H' : Hp) (v : V), Same H4 H' → PlAt CE C H' v (.ask z m y p f) → Q3 v H') → ∀ x dx, H4 x = none → H4 dx = none → dx ≠ x → spPInit C [.ref x, .ref e, vp, vf] (upd (upd H4 dx (.own x)) x (.ins C dx [])) (fun v H2 => v = .non ∧ Q3 (.ref x) H2) E3 := fun Q3 E3 k x dx e1 e2 e3 => madeP e1 e2 e3 fun H' s h => ⟨rfl, k H' (.ref x) s ⟨x, dx, e, vp, vf, rfl, h, ⟨de, s _ _ (s04 _ _ he)⟩, (hp.same s04).same s, (hf.same s04).same s⟩⟩
      refine ⟨_, rfl, rfl, _, rfl, ?_⟩
      rcases hp.ty T (K := K) with ⟨e1, rfl⟩ | ⟨_, nb, _⟩
      · rw [decide_eq_true rfl]
        refine iteT ⟨_, rfl, rfl, _, rfl, ?_⟩
        rcases hf.ty T (K := K) with ⟨e2, rfl⟩ | ⟨_, nb, _⟩
        · exact absurd ⟨e1, e2⟩ hpf
        · rw [decide_eq_false nb]
          exact iteF ⟨_, rfl, _, rfl, _, rfl, mk Q _ fun H' v s h => q H' v (s04.trans s) h⟩
      · rw [decide_eq_false nb]
        exact iteF (iteF ⟨_, rfl, _, rfl, _, rfl, mk Q _ fun H' v s h => q H' v (s04.trans s) h⟩)
end
end K81

/-! {o!s} of an instance whose class has an own __str__ -/
namespace So
open PySem PySem.Spec PyProof.Rows L2
def tFmtS (C : Addr) (sp : Sp) (E : XK) (te : TE) : TE := fun σ H Q => te σ H fun x H1 => ∃ a dx fs, x = .ref a ∧ H1 a = some (.ins C dx fs) ∧ sp [.ref a] H1 (fun v H' => ∃ t : Str, v = .str t ∧ t.length ≤ sizeLine ∧ Q (.str t) H') E
section
variable {X : Cx} {CX : CXT} {k : Nat} {C f : Addr} {fd : FuncData} {ps : List Str} {sp : Sp} {E : XK}
theorem pe_fmtS {e : Expr} {te : TE} {pos : Pos} (he : PE X e te) (F : FnOk X.prog X.w X.K X.mg X.base CX k f fd ps sp) (hs : PySem.W.findIn X.K (.ref C) "__str__" = some (some (.ref f))) (hf : PySem.W.isFn X.K (.ref f) = true) (hb : Binds X.K fd ps []) (hx : Passes CX X E) (hr : Room k X.A) :
    PE X (.FormattedValue e 115 none pos) (tFmtS C sp E te) := by
  refine ⟨fun pins s σ H Q I h => ?_⟩
  refine wpAny_FormattedValue_s (thn (he.run pins s σ H _ I h) fun v s1 ⟨x, H1, I1, rx, a, dx, fs, ex, ha, q⟩ => ?_)
  subst ex
  obtain rfl : v = Value.ref a := rx
  obtain ⟨mA, J, _⟩ := ins_get I1.hok ha
  obtain ⟨od, J, _⟩ := J.look
  show wpAny _ _ (pyStrObj (.ref a)) _ _ s1
  unfold pyStrObj
  refine wpAny_bind (m := cRoomFor _ _) (wpAny_cRoomFor hr.units0 ?_)
  refine wpAny_bind (m := callSpecial? (.ref a) (Str.ofString "__str__")) (PySem.W.special_fn I1.kIn J hs (beq_iff_eq.mp hf) ?_)
  refine thn (run_fn (us := [.ref a]) (vs := [.ref a]) F hr hb .nil hx I1 (.cons rfl .nil) q) fun r s2 ⟨v, H2, I2, rv, t, ev, hz, q2⟩ => ?_
  subst ev
  obtain ⟨tk, rfl⟩ := rv
  refine wpAny_bind (wpAny_isInstance (T := "str") (b := true) rfl isSubtype_str_str (wpAny_pure ?_))
  exact wpAny_formatField_str ⟨.str t, H2, I2, ⟨tk, rfl⟩, q2⟩ ⟨.str t, H2, I2.tok _, ⟨_, rfl⟩, q2⟩ hz
end
end So

namespace So
open PySem PySem.Spec PyProof.Rows L2
section
variable {X : Cx} {CX : CXT} {k : Nat} {C f : Addr} {fd : FuncData} {ps : List Str} {sp : Sp} {E : XK}
/-- str(o) of an instance whose class has an own __str__ -/
theorem call_strOwn (F : FnOk X.prog X.w X.K X.mg X.base CX k f fd ps sp) (hs : PySem.W.findIn X.K (.ref C) "__str__" = some (some (.ref f))) (hf : PySem.W.isFn X.K (.ref f) = true) (hb : Binds X.K fd ps []) (hx : Passes CX X E) (hr : Room (k + 2) X.A) :
    CallR X (.type "str") (fun xs H Q => ∃ a dx fs, xs = [.ref a] ∧ H a = some (.ins C dx fs) ∧ sp [.ref a] H (fun v H' => ∃ t : Str, v = .str t ∧ Q (.str t) H') E) := by
  intro pins s σ H xs us Q I r h
  obtain ⟨a, dx, fs, rfl, ha, q⟩ := h
  obtain ⟨u, rfl, ru⟩ := vals1 r
  cases ru
  obtain ⟨mA, J, _⟩ := ins_get I.hok ha
  obtain ⟨od, J, _⟩ := J.look
  have hr2 : Room k X.A.in1.in1 := hr.in1.in1
  refine PySem.W.kso_call hr2.units0 I.kIn J hs hf ?_
  have e0 : Env0 X.prog X.w X.K X.mg X.base X.A.in1.in1 X.stack s H := I.env0.in1.in1
  have hl : ([Value.ref a] ++ ([] : List Value)).length = ps.length := (F.len _ _ _ _ q : [V.ref a].length = ps.length)
  refine wpAny_call (codeAny_mono (F.run X.A.in1.in1 X.stack s H ⟨[.ref a], []⟩ ([Value.ref a] ++ []) [.ref a] _ E hr2 e0 (hb s [Value.ref a] I.kIn hl) (show Vals [V.ref a] [Value.ref a] from .cons rfl .nil) q) fun r s' hq => ?_)
  match r, hq with
  | .error e, hq => exact hx pins σ H s e s' I hq
  | .ok (.ret u), hq =>
    obtain ⟨v, H', I', rv, t, ev, q'⟩ := I.after hq
    subst ev
    obtain ⟨tk, rfl⟩ := rv
    exact ⟨.str t, H', I', ⟨tk, rfl⟩, q'⟩
  | .ok .next, hq => exact hq.elim
  | .ok .brk, hq => exact hq.elim
  | .ok .cont, hq => exact hq.elim
end
end So

namespace K81
open PySem PySem.Spec PyProof.Rows L2 So
abbrev sPEq : Stmt := inClass (topS 54) 10
abbrev sPStr : Stmt := inClass (topS 54) 11
abbrev sBT : Stmt := topS 55
abbrev sPText : Stmt := topS 46
theorem scPEq : FnScope ["self", "other"] ["self", "other"] (defScope sPEq) := ⟨rfl, rfl, rfl, by decide +kernel, rfl, by decide +kernel, by decide +kernel⟩
theorem scPStr : FnScope ["self"] ["self"] (defScope sPStr) := ⟨rfl, rfl, rfl, by decide +kernel, rfl, by decide +kernel, by decide +kernel⟩
theorem scBT : FnScope ["branch"] ["branch"] (defScope sBT) := ⟨rfl, rfl, rfl, by decide +kernel, rfl, by decide +kernel, by decide +kernel⟩
theorem scPText : FnScope ["plan"] ["plan"] (defScope sPText) := ⟨rfl, rfl, rfl, by decide +kernel, rfl, by decide +kernel, by decide +kernel⟩
/-- a plan's text -/
def Pl.txt : Pl → Str
  | .none => "none"
  | .done => "done"
  | .ask z m y p f => Str.empty ++ entText z m y ++ " " ++ p.txt ++ " " ++ f.txt
theorem EOk.log {z y : Str} {m : Int} (h : EOk z m y) : m.natAbs.log2 < 1920 := by
  obtain ⟨h0, h1⟩ := h.m
  have : m.natAbs < 2 ^ 100 := by omega
  exact Nat.lt_of_lt_of_le (PySem.Flt.log2_lt_of (by decide) this) (by decide)
section
variable {P : Program} {w : World} {K : PySem.W.Frag} {mg : Str → Option Value} {base : Heap}
def spPStr (CE C : Addr) (d : Nat) : Sp := fun vs H Q _ => ∃ (a : Addr) (pl : Pl), vs = [.ref a] ∧ PlAt CE C H (.ref a) pl ∧ pl.Ok ∧ pl.depth ≤ d ∧ pl.txt.length ≤ 100000 ∧ Q (.str pl.txt) H
def spBT (CE C : Addr) (d : Nat) : Sp := fun vs H Q _ => ∃ (v : V) (pl : Pl), vs = [v] ∧ PlAt CE C H v pl ∧ pl.Ok ∧ pl.depth ≤ d ∧ pl.txt.length ≤ 100000 ∧ Q (.str pl.txt) H
theorem ok_bt {f fS C CE : Addr} {fd fdS : FuncData} {k d : Nat} (F : Fun K "branch_text" "branch_text" sBT f fd) (W : Words K mg) (sS : PySem.W.findIn K (.ref C) "__str__" = some (some (.ref fS))) (iS : PySem.W.isFn K (.ref fS) = true) (bS : Binds K fdS ["self"] [])
    (GS : FnOk P w K mg base CX0 k fS fdS ["self"] (spPStr CE C d)) : FnOk P w K mg base CX0 (k + 3) f fd ["branch"] (spBT CE C d) := by
  refine F.ok scBT (fun vs H Q E h => ?_) (fun cdv A outer s H vs Q E hr h => ?_)
  · obtain ⟨_, _, rfl, _⟩ := h
    rfl
  · obtain ⟨v, pl, rfl, hv, ho, hd, hl, q⟩ := h
    refine ⟨_, pss_one (ps_ret (pe_ifExp (pt_cmpR op_isN (pv 0) pe_non (nomark _)) pe_str (pe_callTy (call_strOwn GS sS iS bS pass0 hr) (by rfl) W.str (by decide +kernel) (pa_cons (pv 0) pa_nil)))), ?_⟩
    refine ⟨_, rfl, rfl, _, rfl, ?_⟩
    cases pl with
    | none =>
      obtain rfl := hv
      exact iteT q
    | done =>
      obtain ⟨a, dx, rfl, ha⟩ := id hv
      exact iteF ⟨_, rfl, a, dx, _, rfl, ha, a, .done, rfl, hv, ho, hd, hl, _, rfl, q⟩
    | ask z m y p f =>
      obtain ⟨a, dx, e, vp, vf, rfl, ha, _⟩ := id hv
      exact iteF ⟨_, rfl, a, dx, _, rfl, ha, a, _, rfl, hv, ho, hd, hl, _, rfl, q⟩
theorem ok_pstr {f fB fE C CE pP gP pF gF : Addr} {fd fdB fdE fdP fdF : FuncData} (F : Fun K "__str__" "Plan.__str__" sPStr f fd) (W : Words K mg) (TE : Ent K mg CE) (T : Pln K mg C) (FB : Fun K "branch_text" "branch_text" sBT fB fdB) (bB : Binds K fdB ["branch"] []) (gB : mg "branch_text" = some (.ref fB))
    (sS : PySem.W.findIn K (.ref C) "__str__" = some (some (.ref f))) (iS : PySem.W.isFn K (.ref f) = true) (bS : Binds K fd ["self"] [])
    (sE : PySem.W.findIn K (.ref CE) "__str__" = some (some (.ref fE))) (iE : PySem.W.isFn K (.ref fE) = true) (bE : Binds K fdE ["self"] []) (GE : FnOk P w K mg base CX0 1 fE fdE ["self"] (spStr CE))
    (hP : PropOf K C "passed" pP gP) (bP : Binds K fdP ["self"] []) (GP : FnOk P w K mg base CX0 1 gP fdP ["self"] (spPPass C)) (hF : PropOf K C "failed" pF gF) (bF : Binds K fdF ["self"] []) (GF : FnOk P w K mg base CX0 1 gF fdF ["self"] (spPFail C)) :
    ∀ d, FnOk P w K mg base CX0 (4 + 4 * d) f fd ["self"] (spPStr CE C d)
  | 0 => by
    refine F.ok scPStr (fun vs H Q E h => ?_) (fun cdv A outer s H vs Q E hr h => ?_)
    · obtain ⟨_, _, rfl, _⟩ := h
      rfl
    · obtain ⟨a, pl, rfl, hv, ho, hd, hl, q⟩ := h
      refine ⟨_, pss_cons (ps_if (pt_cmpR op_isN (pe_fld (pv 0) rfl) pe_non (nomark _)) (pss_one (ps_ret pe_str)) pss_nil) (pss_one ps_dead), ?_⟩
      cases pl with
      | none => cases hv
      | done =>
        obtain ⟨_, dx, e, ha⟩ := hv
        cases e
        exact ⟨_, rfl, a, C, dx, _, _, rfl, ha, T.cl, T.nE, pf_entry _ _ _, rfl, _, rfl, iteT q⟩
      | ask z m y p f =>
        unfold Pl.depth at hd
        omega
  | d + 1 => by
    have GS := ok_pstr F W TE T FB bB gB sS iS bS sE iE bE GE hP bP GP hF bF GF d
    have GB := ok_bt FB W sS iS bS GS
    refine F.ok (k := 4 + 4 * d + 3) scPStr (fun vs H Q E h => ?_) (fun cdv A outer s H vs Q E hr h => ?_)
    · obtain ⟨_, _, rfl, _⟩ := h
      rfl
    · obtain ⟨a, pl, rfl, hv, ho, hd, hl, q⟩ := h
      have hr2 : Room 2 _ := hr.mono (by omega)
      have hr1 : Room 1 _ := hr.mono (by omega)
      refine ⟨_, pss_cons (ps_if (pt_cmpR op_isN (pe_fld (pv 0) rfl) pe_non (nomark _)) (pss_one (ps_ret pe_str)) pss_nil)
        (pss_one (ps_ret (pe_joined (.cons (pe_fmtS (pe_fld (pv 0) rfl) GE sE iE bE pass0 hr1) (.cons pe_str (.cons (pe_fmt (pe_call GB hr (by rfl) gB FB.kp bB .nil pass0 (pa_cons (pe_prop (pv 0) T.cl hP GP hr2 bP .nil pass0 rfl) pa_nil)))
          (.cons pe_str (.cons (pe_fmt (pe_call GB hr (by rfl) gB FB.kp bB .nil pass0 (pa_cons (pe_prop (pv 0) T.cl hF GF hr2 bF .nil pass0 rfl) pa_nil))) .nil)))))))), ?_⟩
      cases pl with
      | none => cases hv
      | done =>
        obtain ⟨_, dx, e, ha⟩ := hv
        cases e
        exact ⟨_, rfl, a, C, dx, _, _, rfl, ha, T.cl, T.nE, pf_entry _ _ _, rfl, _, rfl, iteT q⟩
      | ask z m y p f =>
        obtain ⟨_, dx, e, vp, vf, ea, ha, ⟨de, he⟩, hvp, hvf⟩ := hv
        cases ea
        obtain ⟨hE, hn, hop, hof⟩ := ho
        unfold Pl.depth at hd
        have hss := sizeLine_eq
        have e0 : Str.empty.length = 0 := by decide
        have c1 : ((" " : String) : Str).length = 1 := by decide
        have hl' : Str.empty.length + (entText z m y).length + 1 + p.txt.length + 1 + f.txt.length ≤ 100000 := by
          have : (Pl.ask z m y p f).txt.length = Str.empty.length + (entText z m y).length + 1 + p.txt.length + 1 + f.txt.length := by
            have e : (Pl.ask z m y p f).txt = Str.empty ++ entText z m y ++ ((" " : String) : Str) ++ p.txt ++ ((" " : String) : Str) ++ f.txt := rfl
            rw [e]
            simp only [Str.length_append, c1]
          omega
        refine ⟨_, rfl, a, C, dx, _, _, rfl, ha, T.cl, T.nE, pf_entry _ _ _, rfl, _, rfl, iteF ?_⟩
        refine ⟨_, rfl, a, C, dx, _, _, rfl, ha, T.cl, T.nE, pf_entry _ _ _, e, de, _, rfl, he, e, z, m, y, rfl, ⟨de, he⟩, name_len hE.z, name_len hE.y, hE.log, entText z m y, rfl, by omega, _, rfl, ?_, ?_⟩
        · rw [Str.length_append]; omega
        refine ⟨_, rfl, ?_, ?_⟩
        · rw [Str.length_append, Str.length_append, c1]; omega
        refine ⟨_, rfl, a, dx, _, rfl, ha, a, dx, _, _, _, rfl, ha, vp, p, rfl, hvp, hop, by omega, by omega, .inl ⟨_, rfl, by omega, _, rfl, ?_, ?_⟩⟩
        · rw [Str.length_append, Str.length_append, Str.length_append, c1]; omega
        refine ⟨_, rfl, ?_, ?_⟩
        · rw [Str.length_append, Str.length_append, Str.length_append, Str.length_append, c1]; omega
        refine ⟨_, rfl, a, dx, _, rfl, ha, a, dx, _, _, _, rfl, ha, vf, f, rfl, hvf, hof, by omega, by omega, .inl ⟨_, rfl, by omega, _, rfl, ?_, q⟩⟩
        · simp only [Str.length_append, c1]
          omega
end
end K81

namespace K81
open PySem PySem.Spec PyProof.Rows L2 So
section
variable {P : Program} {w : World} {K : PySem.W.Frag} {mg : Str → Option Value} {base : Heap}
def spPText (CE C : Addr) (d : Nat) : Sp := fun vs H Q _ => ∃ (a : Addr) (pl : Pl), vs = [.ref a] ∧ PlAt CE C H (.ref a) pl ∧ pl.Ok ∧ pl.depth ≤ d ∧ pl.txt.length ≤ 100000 ∧ Q (.str pl.txt) H
theorem ok_ptext {f fS C CE : Addr} {fd fdS : FuncData} {k d : Nat} (F : Fun K "plan_text" "plan_text" sPText f fd) (W : Words K mg) (sS : PySem.W.findIn K (.ref C) "__str__" = some (some (.ref fS))) (iS : PySem.W.isFn K (.ref fS) = true) (bS : Binds K fdS ["self"] [])
    (GS : FnOk P w K mg base CX0 k fS fdS ["self"] (spPStr CE C d)) : FnOk P w K mg base CX0 (k + 3) f fd ["plan"] (spPText CE C d) := by
  refine F.ok scPText (fun vs H Q E h => ?_) (fun cdv A outer s H vs Q E hr h => ?_)
  · obtain ⟨_, _, rfl, _⟩ := h
    rfl
  · obtain ⟨a, pl, rfl, hv, ho, hd, hl, q⟩ := h
    refine ⟨_, pss_one (ps_ret (pe_callTy (call_strOwn GS sS iS bS pass0 hr) (by rfl) W.str (by decide +kernel) (pa_cons (pv 0) pa_nil))), ?_⟩
    cases pl with
    | none => cases hv
    | done =>
      obtain ⟨_, dx, e, ha⟩ := id hv
      cases e
      exact ⟨_, rfl, a, dx, _, rfl, ha, a, .done, rfl, hv, ho, hd, hl, _, rfl, q⟩
    | ask z m y p f =>
      obtain ⟨_, dx, e, vp, vf, ea, ha, _⟩ := id hv
      cases ea
      exact ⟨_, rfl, a, dx, _, rfl, ha, a, _, rfl, hv, ho, hd, hl, _, rfl, q⟩
/-- a plan compared with a like one, with something else -/
def spPEq (K : PySem.W.Frag) (CE C : Addr) (d : Nat) : Sp := fun vs H Q _ => ∃ (a : Addr) (y : V), vs = [.ref a, y] ∧ ((∃ pl : Pl, PlAt CE C H (.ref a) pl ∧ PlAt CE C H y pl ∧ pl.depth ≤ d ∧ Q (.bl true) H) ∨ (∃ t, TyX K H y t ∧ PySem.W.kitOne K t (.ref C) = some false ∧ Q (.bl false) H))
theorem ok_peq {f fE C CE pP gP pF gF : Addr} {fd fdE fdP fdF : FuncData} (F : Fun K "__eq__" "Plan.__eq__" sPEq f fd) (W : Words K mg) (TE : Ent K mg CE) (T : Pln K mg C) (nfE : PySem.W.notFirst K CE (.ref CE) = true)
    (sQ : PySem.W.findIn K (.ref C) "__eq__" = some (some (.ref f))) (iQ : PySem.W.isFn K (.ref f) = true) (bQ : Binds K fd ["self", "other"] [])
    (sE : PySem.W.findIn K (.ref CE) "__eq__" = some (some (.ref fE))) (iE : PySem.W.isFn K (.ref fE) = true) (bE : Binds K fdE ["self", "other"] []) (GE : FnOk P w K mg base CX0 1 fE fdE ["self", "other"] (spEq K CE))
    (hP : PropOf K C "passed" pP gP) (bP : Binds K fdP ["self"] []) (GP : FnOk P w K mg base CX0 1 gP fdP ["self"] (spPPass C)) (hF : PropOf K C "failed" pF gF) (bF : Binds K fdF ["self"] []) (GF : FnOk P w K mg base CX0 1 gF fdF ["self"] (spPFail C)) :
    ∀ d, FnOk P w K mg base CX0 (4 + d) f fd ["self", "other"] (spPEq K CE C d)
  | 0 => by
    refine F.ok scPEq (fun vs H Q E h => ?_) (fun cdv A outer s H vs Q E hr h => ?_)
    · obtain ⟨_, _, rfl, _⟩ := h
      rfl
    · obtain ⟨a, y, rfl, h⟩ := h
      have hr2 : Room 2 _ := hr.mono (by omega)
      refine ⟨_, pss_cons (ps_if (pt_not (pt_val (pe_callB call_isi (by rfl) W.isi (by decide +kernel) (pa_cons (pv 1) (pa_cons (pe_glob (v := .ref C) rfl T.mgC rfl) pa_nil))))) (pss_one (ps_ret pe_bl)) pss_nil)
        (pss_one (ps_ret (pe_and (pe_cmpR op_eq (pe_fld (pv 0) rfl) (pe_fld (pv 1) rfl) (nomark _)) (pe_and (pe_cmpR op_eq (pe_prop (pv 0) T.cl hP GP hr2 bP .nil pass0 rfl) (pe_prop (pv 1) T.cl hP GP hr2 bP .nil pass0 rfl) (nomark _))
          (pe_one (pe_cmpR op_eq (pe_prop (pv 0) T.cl hF GF hr2 bF .nil pass0 rfl) (pe_prop (pv 1) T.cl hF GF hr2 bF .nil pass0 rfl) (nomark _))))))), ?_⟩
      rcases h with ⟨pl, h1, h2, hd, q⟩ | ⟨t, ty, hk, q⟩
      · cases pl with
        | none => cases h1
        | done =>
          obtain ⟨_, dx, e, ha⟩ := h1
          cases e
          obtain ⟨a', dx', rfl, ha'⟩ := h2
          refine ⟨_, rfl, _, _, _, _, true, rfl, .own C, .base (.ins ha' T.cl T.ha T.hn T.htk T.hm), T.me, true, rfl, iteF ?_⟩
          refine ⟨_, rfl, a, C, dx, _, _, rfl, ha, T.cl, T.nE, pf_entry _ _ _, _, rfl, a', C, dx', _, _, rfl, ha', T.cl, T.nE, pf_entry _ _ _, rfl, _, rfl, iteT ?_⟩
          refine ⟨_, rfl, a, dx, _, rfl, ha, a, dx, _, _, _, rfl, ha, _, rfl, a', dx', _, rfl, ha', a', dx', _, _, _, rfl, ha', rfl, _, rfl, iteT ?_⟩
          exact ⟨_, rfl, a, dx, _, rfl, ha, a, dx, _, _, _, rfl, ha, _, rfl, a', dx', _, rfl, ha', a', dx', _, _, _, rfl, ha', rfl, q⟩
        | ask z m y p f =>
          unfold Pl.depth at hd
          omega
      · exact ⟨_, rfl, _, _, _, _, false, rfl, .own C, ty, hk, false, rfl, iteT q⟩
  | d + 1 => by
    have GQ := ok_peq F W TE T nfE sQ iQ bQ sE iE bE GE hP bP GP hF bF GF d
    refine F.ok (k := 4 + d) scPEq (fun vs H Q E h => ?_) (fun cdv A outer s H vs Q E hr h => ?_)
    · obtain ⟨_, _, rfl, _⟩ := h
      rfl
    · obtain ⟨a, y, rfl, h⟩ := h
      have hr2 : Room 2 _ := hr.mono (by omega)
      have hr1 : Room 1 _ := hr.mono (by omega)
      refine ⟨_, pss_cons (ps_if (pt_not (pt_val (pe_callB call_isi (by rfl) W.isi (by decide +kernel) (pa_cons (pv 1) (pa_cons (pe_glob (v := .ref C) rfl T.mgC rfl) pa_nil))))) (pss_one (ps_ret pe_bl)) pss_nil)
        (pss_one (ps_ret (pe_and (pe_cmpR (OpR.or op_eq (op_eqOwn GE sE iE bE pass0 hr1)) (pe_fld (pv 0) rfl) (pe_fld (pv 1) rfl) (nomark _)) (pe_and (pe_cmpR (OpR.or op_eq (op_eqOwn GQ sQ iQ bQ pass0 hr)) (pe_prop (pv 0) T.cl hP GP hr2 bP .nil pass0 rfl) (pe_prop (pv 1) T.cl hP GP hr2 bP .nil pass0 rfl) (nomark _))
          (pe_one (pe_cmpR (OpR.or op_eq (op_eqOwn GQ sQ iQ bQ pass0 hr)) (pe_prop (pv 0) T.cl hF GF hr2 bF .nil pass0 rfl) (pe_prop (pv 1) T.cl hF GF hr2 bF .nil pass0 rfl) (nomark _))))))), ?_⟩
      rcases h with ⟨pl, h1, h2, hd, q⟩ | ⟨t, ty, hk, q⟩
      · cases pl with
        | none => cases h1
        | done =>
          obtain ⟨_, dx, e, ha⟩ := h1
          cases e
          obtain ⟨a', dx', rfl, ha'⟩ := h2
          refine ⟨_, rfl, _, _, _, _, true, rfl, .own C, .base (.ins ha' T.cl T.ha T.hn T.htk T.hm), T.me, true, rfl, iteF ?_⟩
          refine ⟨_, rfl, a, C, dx, _, _, rfl, ha, T.cl, T.nE, pf_entry _ _ _, _, rfl, a', C, dx', _, _, rfl, ha', T.cl, T.nE, pf_entry _ _ _, .inl ⟨rfl, _, rfl, iteT ?_⟩⟩
          refine ⟨_, rfl, a, dx, _, rfl, ha, a, dx, _, _, _, rfl, ha, _, rfl, a', dx', _, rfl, ha', a', dx', _, _, _, rfl, ha', .inl ⟨rfl, _, rfl, iteT ?_⟩⟩
          exact ⟨_, rfl, a, dx, _, rfl, ha, a, dx, _, _, _, rfl, ha, _, rfl, a', dx', _, rfl, ha', a', dx', _, _, _, rfl, ha', .inl ⟨rfl, q⟩⟩
        | ask z m y p f =>
          unfold Pl.depth at hd
          obtain ⟨_, dx, e, vp, vf, ea, ha, ⟨de, he⟩, hp1, hf1⟩ := h1
          cases ea
          obtain ⟨a', dx', e', vp', vf', rfl, ha', ⟨de', he'⟩, hp2, hf2⟩ := h2
          -- the branches
          have br : ∀ {v v' : V} {b : Pl} {E' : XK} {Q' : VK}, PlAt CE C H v b → PlAt CE C H v' b → b.depth ≤ d → Q' (.bl true) H → (rEq v v' H Q' ∨ So.rOwn C K (spPEq K CE C d) E' id v v' H Q') := by
            intro v v' b E' Q' g1 g2 gd k
            cases b with
            | none =>
              obtain rfl := g1
              obtain rfl := g2
              exact .inl ⟨rfl, k⟩
            | done =>
              obtain ⟨b1, x1, rfl, i1⟩ := id g1
              obtain ⟨b2, x2, rfl, i2⟩ := id g2
              exact .inr ⟨b1, x1, _, .ref C, rfl, i1, .base (.ins i2 T.cl T.ha T.hn T.htk T.hm), T.nf, b1, _, rfl, .inl ⟨_, g1, g2, gd, _, rfl, k⟩⟩
            | ask =>
              obtain ⟨b1, x1, _, _, _, rfl, i1, _⟩ := id g1
              obtain ⟨b2, x2, _, _, _, rfl, i2, _⟩ := id g2
              exact .inr ⟨b1, x1, _, .ref C, rfl, i1, .base (.ins i2 T.cl T.ha T.hn T.htk T.hm), T.nf, b1, _, rfl, .inl ⟨_, g1, g2, gd, _, rfl, k⟩⟩
          refine ⟨_, rfl, _, _, _, _, true, rfl, .own C, .base (.ins ha' T.cl T.ha T.hn T.htk T.hm), T.me, true, rfl, iteF ?_⟩
          refine ⟨_, rfl, a, C, dx, _, _, rfl, ha, T.cl, T.nE, pf_entry _ _ _, _, rfl, a', C, dx', _, _, rfl, ha', T.cl, T.nE, pf_entry _ _ _, .inr ⟨e, de, _, .ref CE, rfl, he, .base (.ins he' TE.cl TE.ha TE.hn TE.htk TE.hm), nfE, e, .ref e', z, y, m, rfl, ⟨de, he⟩, .inl ⟨e', z, y, m, rfl, ⟨de', he'⟩, _, rfl, ?_⟩⟩⟩
          refine ⟨_, rfl, ?_⟩
          rw [show id (decide (z = z) && decide (m = m) && decide (y = y)) = true by simp]
          refine iteT ?_
          refine ⟨_, rfl, a, dx, _, rfl, ha, a, dx, _, _, _, rfl, ha, _, rfl, a', dx', _, rfl, ha', a', dx', _, _, _, rfl, ha', br hp1 hp2 (by omega) ⟨_, rfl, iteT ?_⟩⟩
          exact ⟨_, rfl, a, dx, _, rfl, ha, a, dx, _, _, _, rfl, ha, _, rfl, a', dx', _, rfl, ha', a', dx', _, _, _, rfl, ha', br hf1 hf2 (by omega) q⟩
      · exact ⟨_, rfl, _, _, _, _, false, rfl, .own C, ty, hk, false, rfl, iteT q⟩
end
end K81

namespace K81
open PySem PySem.Spec PyProof.Rows L2 So TL
section
variable {P : Program} {w : World} {K : PySem.W.Frag} {mg : Str → Option Value} {base : Heap}
def spLIsMom : Sp := fun vs H Q _ => ∃ z : Str, vs = [.str z] ∧ z.length ≤ 2000 ∧ asc z ∧ ∀ H', Same H H' → Q (.bl (isNum z)) H'
theorem ok_lisMom {f : Addr} {fd : FuncData} (F : Fun K "_law_is_moment" "_law_is_moment" sLIsMom f fd) (ml : mg "len" = none) (mi : mg "int" = none) (ms : mg "str" = none) : FnOk P w K mg base CX0 1 f fd ["_law_word"] spLIsMom := by
  refine F.ok scLIsMom (fun vs H Q E h => ?_) (fun cdv A outer s H vs Q E hr h => ?_)
  · obtain ⟨z, rfl, _⟩ := h
    rfl
  · obtain ⟨z, rfl, hz, ha, q⟩ := h
    refine ⟨_, pss_cons (ps_if (PW.pt (pw_or (pt_not (pt_chain op_le op_le pe_int (pe_callB call_len_str (by rfl) ml PySem.boot_len (pa_cons (pv 0) pa_nil)) pe_int))
          (pw_or1 (pt_cmpR (op_neD (by have := hr.units; exact this)) (pe_lc (own := [("_law_sign", 1)]) (g := gName 1) rfl scLIsMom.nd (pi_str (pv 0)) (blkOk_by (N := lmoN) (sc := defScope sLIsMom) (by decide +kernel))
        (fun _ _ _ _ _ => pg_name (i := 1) scLIsMom.nd rfl (Or.inl rfl)) (fun _ _ _ _ _ => pts_one (pt_cmpR op_notIn_sign (pv 1) pe_str (by rfl))) (fun _ _ _ _ _ => pv 1)) (pe_lst pa_nil) (nomark _))))) (pss_one (ps_ret pe_bl)) pss_nil)
      (pss_one (ps_ret (pe_and (pe_cmpR op_eq (pe_callTy call_str_int (by rfl) ms (by decide +kernel) (pa_cons (pe_callTy call_int_str (by rfl) mi (by decide +kernel) (pa_cons (pv 0) pa_nil)) pa_nil)) (pv 0) (nomark _))
        (pe_one (pe_cmpR op_le (pe_callTy call_int_str (by rfl) mi (by decide +kernel) (pa_cons (pv 0) pa_nil)) (pe_op op_pow pe_int pe_int) (nomark _)))))), ?_⟩
    have hzl : z.length ≤ sizeLine := Nat.le_trans hz (by decide)
    have no : isNum z = false → ∀ H', Same H H' → Q (.bl false) H' := fun e H' s => by
      have := q H' s
      rw [e] at this
      exact this
    refine ⟨_, rfl, _, rfl, hzl, _, _, rfl, rfl, _, rfl, ite2 (fun c1 => ?_) (fun c1 => ⟨_, rfl, iteT (no ?_ H (Same.refl H))⟩)⟩
    case refine_2 =>
      have c1' : ¬ (1 : Int) ≤ ((z.length : Nat) : Int) := fun e => c1 (decide_eq_true e)
      unfold isNum
      rw [show decide (1 ≤ z.length) = false from decide_eq_false (by omega)]
      rfl
    have c1' : (1 : Int) ≤ ((z.length : Nat) : Int) := of_decide_eq_true c1
    refine ⟨_, _, rfl, rfl, _, rfl, ?_⟩
    by_cases c2 : ((z.length : Nat) : Int) ≤ 31
    case neg =>
      rw [decide_eq_false c2]
      refine iteT (no ?_ H (Same.refl H))
      unfold isNum
      rw [show decide (z.length ≤ 31) = false from decide_eq_false (by omega), Bool.and_false]
      rfl
    rw [decide_eq_true c2]
    have e1 : decide (1 ≤ z.length) = true := decide_eq_true (by omega)
    have e2 : decide (z.length ≤ 31) = true := decide_eq_true (by omega)
    have hsz : z.cps.toList.length = z.length := Array.length_toList
    refine iteF ⟨_, rfl, _, rfl, fun D hD => lc_it walk_str (fun i H' => H' D = some (.lst ((offs isDig (z.cps.toList.take i)).map V.str)) ∧ Same H H') ⟨?_, ?_⟩ (fun _ _ _ _ => trivial) ?_ ?_⟩
    · exact upd_same
    · exact same_upd0 hD
    · rintro i x H1 H2 hi ⟨h1, s1⟩ ⟨rfl, c, hc1, rfl⟩
      have hc2 : z.cps.toList[i]? = some c := by
        rw [Array.getElem?_toList]
        exact hc1
      refine ⟨rfl, _, rfl, c, _, rfl, rfl, _, rfl, ite2 (fun c5 => ?_) (fun c5 => ?_)⟩
      · have c5' : isDig c = false := by
          have h : (!isDig c) = true := c5
          simpa using h
        refine ⟨_, rfl, _, h1, ?_, ?_, Same.over s1 hD⟩
        · rw [List.length_map]
          refine Nat.lt_of_le_of_lt (offs_len _ _) ?_
          rw [Array.length_toList]
          exact Nat.lt_of_le_of_lt (show z.cps.size ≤ 2000 from hz) (by decide)
        · rw [upd_same, offs_snoc hc2, if_neg (by rw [c5']; exact Bool.false_ne_true), List.map_append]
          rfl
      · have c5' : isDig c = true := by
          have h : ¬ (!isDig c) = true := c5
          simpa using h
        refine ⟨?_, s1⟩
        rw [offs_snoc hc2, if_pos c5', List.append_nil]
        exact h1
    · rintro H1 ⟨h1, s1⟩
      rw [List.take_of_length_le (by rw [Array.length_toList]; exact Nat.le_refl _)] at h1
      refine ⟨Nat.zero_le _, fun p hp => ?_⟩
      have s2 := same_upd0 (o := .lst []) hp
      refine ⟨.list ((offs isDig z.cps.toList).map PyData.str), .list [], .lst (SqL.of (s2 _ _ h1)) (dp_strs _), .lst (SqL.of upd_same) .nil, shaped_strs (offs_ok ha), by decide, _, rfl, ?_⟩
      rw [eqv_nil, show ((offs isDig z.cps.toList).map PyData.str).isEmpty = z.cps.toList.all isDig by rw [List.isEmpty_map, offs_nil]]
      have s3 := s1.trans s2
      revert s3
      generalize upd H1 p (.lst []) = H3
      intro s3
      cases c3 : z.cps.toList.all isDig with
      | false =>
        refine iteT (no ?_ H3 s3)
        unfold isNum
        rw [c3, Bool.and_false, Bool.false_and]
      | true =>
        refine iteF ?_
        have hall := all_dig c3
        have q3 := q H3 s3
        rw [isNum_text (by omega) (by omega) c3] at q3
        have hsm : numOf z < 2 ^ 120 := num_small hall (by omega)
        have hlog : (((numOf z : Nat) : Int)).natAbs.log2 < 1920 := Nat.lt_of_lt_of_le (PySem.Flt.log2_lt_of (by decide) (show (((numOf z : Nat) : Int)).natAbs < 2 ^ 120 from hsm)) (by decide)
        have hio := int_of (z := z) (by omega) (by omega) c3
        refine ⟨_, rfl, z, _, rfl, hio, by omega, _, rfl, hlog, _, rfl, rfl, _, rfl, ?_⟩
        rw [show decide (V.str (toString ((numOf z : Nat) : Int) : String) = V.str z) = decide (Str.ofString (toString ((numOf z : Nat) : Int)) = z) from eqStr _ _]
        have eP : (10 : Int) ^ Int.toNat 30 = 1000000000000000000000000000000 := by decide +kernel
        cases e5 : decide (Str.ofString (toString ((numOf z : Nat) : Int)) = z) with
        | false =>
          rw [e5, Bool.false_and] at q3
          exact iteF q3
        | true =>
          rw [e5, Bool.true_and] at q3
          refine iteT ⟨_, rfl, z, _, rfl, hio, by omega, _, _, rfl, rfl, ⟨by decide, by decide, by decide⟩, _, _, rfl, rfl, ?_⟩
          rw [eP]
          exact q3
end
end K81

/-! repr of data with dicts: each thing's text built by itself, so that no more is asked of an address than that a dict is not the modules' own. -/
namespace So
open PySem PySem.Spec PyProof.Rows L2
mutual
/-- a value is this data; dicts with texts as keys may stand in it -/
inductive Dd (K : PySem.W.Frag) (H : Hp) : V → PyData → Prop
  | non : Dd K H .non .none
  | bl (b : Bool) : Dd K H (.bl b) (.bool b)
  | int (i : Int) : Dd K H (.int i) (.int i)
  | str (x : Str) : Dd K H (.str x) (.str x)
  | lst {a : Addr} {xs : List V} {ds : List PyData} (e : SqL K H a xs) (h : DdAll K H xs ds) : Dd K H (.ref a) (.list ds)
  | tup {a : Addr} {xs : List V} {ds : List PyData} (e : SqT K H a xs) (h : DdAll K H xs ds) : Dd K H (.ref a) (.tuple ds)
  | dct {a : Addr} {kvs : List (Key × V)} {ds : List (PyData × PyData)} (e : H a = some (.dK kvs)) (h : DdKv K H kvs ds) : Dd K H (.ref a) (.dict ds)
inductive DdAll (K : PySem.W.Frag) (H : Hp) : List V → List PyData → Prop
  | nil : DdAll K H [] []
  | cons {v : V} {vs : List V} {d : PyData} {ds : List PyData} (h : Dd K H v d) (t : DdAll K H vs ds) : DdAll K H (v :: vs) (d :: ds)
inductive DdKv (K : PySem.W.Frag) (H : Hp) : List (Key × V) → List (PyData × PyData) → Prop
  | nil : DdKv K H [] []
  | cons {k : Str} {v : V} {r : List (Key × V)} {d : PyData} {ds : List (PyData × PyData)} (h : Dd K H v d) (t : DdKv K H r ds) : DdKv K H ((Sum.inr k, v) :: r) ((.str k, d) :: ds)
end
section
variable {X : Cx} {pins : List (Addr × Obj)} {σ : L2.St} {H : Hp} {s : Shared}
/-- a thing in memory that shows so -/
def ShK (X : Cx) (h : Heap) (u : Value) (d : PyData) : Prop := ∃ as bs, Reads h u d as ∧ ReadAtMost h d.depth bs ∧ ReprK X.prog X.w bs h d.depth u d.shown
def ShAll (X : Cx) (h : Heap) (us : List Value) (ds : List PyData) : Prop := ∃ as bs, ReadsAll h us ds as ∧ ReadAtMost h (PyData.depthAll ds) bs ∧ ReprAllK X.prog X.w bs h (PyData.depthAll ds) us (PyData.shownAll ds)
theorem shAll_cons {h : Heap} {u : Value} {us : List Value} {d : PyData} {ds : List PyData} (a : ShK X h u d) (b : ShAll X h us ds) : ShAll X h (u :: us) (d :: ds) := by
  obtain ⟨as1, b1, r1, hb1, k1⟩ := a
  obtain ⟨as2, b2, r2, hb2, k2⟩ := b
  refine ⟨_, b1 ++ b2, .cons r1 r2, ?_, ?_⟩
  · intro b hm
    simp only [PyData.depthAll]
    rcases List.mem_append.mp hm with hm | hm
    · obtain ⟨d', as', r', hd'⟩ := hb1 b hm
      exact ⟨d', as', r', Nat.le_trans hd' (Nat.le_max_left _ _)⟩
    · obtain ⟨d', as', r', hd'⟩ := hb2 b hm
      exact ⟨d', as', r', Nat.le_trans hd' (Nat.le_max_right _ _)⟩
  · simp only [PyData.depthAll, PyData.shownAll]
    exact .cons ((k1.more fun b hb => List.mem_append_left _ hb).level_le (Nat.le_max_left _ _)) (k2.more_le (fun b hb => List.mem_append_right _ hb) (Nat.le_max_right _ _))
theorem shAll_nil {h : Heap} : ShAll X h [] [] := ⟨_, [], .nil, (fun _ h => nomatch h), by simp only [PyData.shownAll]; exact .nil⟩
mutual
theorem Dd.sh (I : Inv X pins σ H s) : ∀ (d : PyData) (v : V) (u : Value), Dd X.K H v d → RelV v u → d.showable = true → d.shown.length ≤ sizeLine → ShK X s.heap u d
  | .none, _, _, h, r, _, _ => by
    cases h
    cases r
    exact ⟨_, [], .none, (fun _ h => nomatch h), by simp only [PyData.shown]; exact .of_is ReprIs.none _ _ _⟩
  | .bool b, _, _, h, r, _, _ => by
    cases h
    cases r
    exact ⟨_, [], .bool b, (fun _ h => nomatch h), by simp only [PyData.shown]; exact .of_is (ReprIs.bool b) _ _ _⟩
  | .int i, _, _, h, r, hs, _ => by
    cases h
    obtain ⟨t, rfl⟩ := r
    exact ⟨_, [], .int i t, (fun _ h => nomatch h), by simp only [PyData.shown]; exact .of_is (ReprIs.int t (by simpa [PyData.showable] using hs)) _ _ _⟩
  | .str x, _, _, h, r, _, hz => by
    cases h
    obtain ⟨t, rfl⟩ := r
    exact ⟨_, [], .str x t, (fun _ h => nomatch h), by simp only [PyData.shown]; exact .of_is (ReprIs.str x t (by simpa only [PyData.shown] using hz)) _ _ _⟩
  | .list ds, _, _, h, r, hs, hz => by
    cases h with
    | @lst a xs _ e hall =>
      cases r
      have hz' : (listText (PyData.shownAll ds)).length ≤ sizeLine := by simpa only [PyData.shown] using hz
      obtain ⟨its, rv, ⟨o, n, h1, h2, _, h3⟩, _⟩ := I.list e
      obtain ⟨as, bs, rd, hb, hk⟩ := DdAll.sh I ds xs its hall rv (by simpa [PyData.showable] using hs) (fun t ht => Nat.le_trans (listText_mem_le ht) hz')
      have rr : Reads s.heap (.ref a) (.list ds) _ := .list h1 h2 h3 rd
      have hna : a ∉ bs := not_mem_of_deeper rr (by simp only [PyData.depth]; omega) hb
      refine ⟨_, a :: bs, rr, ReadAtMost.cons rr (by simp only [PyData.depth]; omega) hb, ?_⟩
      simp only [PyData.depth, PyData.shown]
      cases its with
      | nil =>
        cases rd
        simp only [PyData.shownAll, listText_nil]
        exact ReprK.listEmpty h1 h2 h3
      | cons x l => exact ReprK.list h1 h2 h3 hna (by simpa using hk.length_eq) (fun i y e => hk.item i y (by simpa using e))
  | .tuple ds, _, _, h, r, hs, hz => by
    cases h with
    | @tup a xs _ e hall =>
      cases r
      have hz' : (tupleText (PyData.shownAll ds)).length ≤ sizeLine := by simpa only [PyData.shown] using hz
      obtain ⟨its, rv, ⟨o, h1, h2, n, h3⟩, _⟩ := I.tuple e
      obtain ⟨as, bs, rd, hb, hk⟩ := DdAll.sh I ds xs its hall rv (by simpa [PyData.showable] using hs) (fun t ht => Nat.le_trans (tupleText_mem_le ht) hz')
      have rr : Reads s.heap (.ref a) (.tuple ds) _ := .tuple h1 h2 h3 rd
      have hna : a ∉ bs := not_mem_of_deeper rr (by simp only [PyData.depth]; omega) hb
      refine ⟨_, a :: bs, rr, ReadAtMost.cons rr (by simp only [PyData.depth]; omega) hb, ?_⟩
      simp only [PyData.depth, PyData.shown]
      exact ReprK.tuple h1 h2 h3 hna hk
  | .dict ds, _, _, h, r, hs, hz => by
    cases h with
    | @dct a kvs _ e hall =>
      cases r
      have hz' : (dictText (PyData.shownKv ds)).length ≤ sizeLine := by simpa only [PyData.shown] using hz
      obtain ⟨_, hsys, vs, hk, hD⟩ : kvs.length ≤ sizeLine ∧ (a == sysModules) = false ∧ ∃ vs, KV kvs vs ∧ s.heap.DictOf (mixKind X.prog X.w) a vs := I.hok a _ e
      obtain ⟨o, es, ep, h1, h2, h3, _, e5, _⟩ := hD
      obtain ⟨hs1, hs2⟩ := PyData.showableKv_split ds (by simpa [PyData.showable] using hs)
      obtain ⟨⟨as1, b1, r1, hb1, k1⟩, as2, b2, r2, hb2, k2⟩ := DdKv.sh I ds kvs vs es.toList hall hk e5 hs1 hs2
        (fun t ht => let ⟨p, hp, hl⟩ := PyData.shownKv_key_le ds t ht; Nat.le_trans hl (Nat.le_trans (dictText_mem_le hp) hz')) (fun t ht => let ⟨p, hp, hl⟩ := PyData.shownKv_val_le ds t ht; Nat.le_trans hl (Nat.le_trans (dictText_mem_le hp) hz'))
      have rr : Reads s.heap (.ref a) (.dict ds) _ := .dict h1 h2.1 h3 r1 r2
      have hb : ReadAtMost s.heap (PyData.depthKv ds) (b1 ++ b2) := (hb1.mono (PyData.depthAll_keys_le ds)).append (hb2.mono (PyData.depthAll_vals_le ds))
      have hna : a ∉ b1 ++ b2 := not_mem_of_deeper rr (by simp only [PyData.depth]; omega) hb
      refine ⟨_, a :: (b1 ++ b2), rr, ReadAtMost.cons rr (by simp only [PyData.depth]; omega) hb, ?_⟩
      simp only [PyData.depth, PyData.shown, PyData.shownKv_eq]
      exact ReprK.dict h1 h2.1 h3 hsys hna (ReprEntriesK.of_two es.toList _ _
        (k1.more_le (fun b hb => List.mem_append_left _ hb) (PyData.depthAll_keys_le ds)) (k2.more_le (fun b hb => List.mem_append_right _ hb) (PyData.depthAll_vals_le ds)))
theorem DdAll.sh (I : Inv X pins σ H s) : ∀ (ds : List PyData) (vs : List V) (us : List Value), DdAll X.K H vs ds → Vals vs us → PyData.showableAll ds = true → (∀ t ∈ PyData.shownAll ds, t.length ≤ sizeLine) → ShAll X s.heap us ds
  | [], _, _, h, r, _, _ => by
    cases h
    cases r
    exact shAll_nil
  | d :: ds, _, _, h, r, hs, hz => by
    cases h with
    | cons h1 h2 =>
      cases r with
      | cons r1 r2 =>
        have hs' : d.showable = true ∧ PyData.showableAll ds = true := by simpa [PyData.showableAll] using hs
        exact shAll_cons (Dd.sh I d _ _ h1 r1 hs'.1 (hz _ (by simp only [PyData.shownAll]; exact List.mem_cons_self ..))) (DdAll.sh I ds _ _ h2 r2 hs'.2 fun t ht => hz t (by simp only [PyData.shownAll]; exact List.mem_cons_of_mem _ ht))
theorem DdKv.sh (I : Inv X pins σ H s) : ∀ (ds : List (PyData × PyData)) (kvs : List (Key × V)) (vs : List (Key × Value)) (es : List DictEntry), DdKv X.K H kvs ds → KV kvs vs → Pairs (mixKind X.prog X.w) es vs → PyData.showableAll (ds.map (·.1)) = true → PyData.showableAll (ds.map (·.2)) = true →
    (∀ t ∈ PyData.shownAll (ds.map (·.1)), t.length ≤ sizeLine) → (∀ t ∈ PyData.shownAll (ds.map (·.2)), t.length ≤ sizeLine) → ShAll X s.heap (es.map (·.key)) (ds.map (·.1)) ∧ ShAll X s.heap (es.map (·.val)) (ds.map (·.2))
  | [], _, _, _, h, hk, hp, _, _, _, _ => by
    cases h
    cases hk
    cases hp
    exact ⟨shAll_nil, shAll_nil⟩
  | (dk, dv) :: ds, _, _, _, h, hk, hp, hs1, hs2, z1, z2 => by
    cases h with
    | @cons k v r _ _ h1 h2 =>
      cases hk with
      | @cons _ kv _ _ hk1 hk2 =>
        obtain ⟨kk, kval⟩ := kv
        obtain ⟨q1, q2⟩ := hk1
        simp only at q1 q2
        subst q1
        cases hp with
        | @cons en _ es' _ p1 p2 p3 =>
          have hs1' : (PyData.str k).showable = true ∧ PyData.showableAll (ds.map (·.1)) = true := by simpa [PyData.showableAll] using hs1
          have hs2' : dv.showable = true ∧ PyData.showableAll (ds.map (·.2)) = true := by simpa [PyData.showableAll] using hs2
          have hz1 : (PyData.str k).shown.length ≤ sizeLine := z1 _ (by simp only [List.map_cons, PyData.shownAll]; exact List.mem_cons_self ..)
          have hz2 : dv.shown.length ≤ sizeLine := z2 _ (by simp only [List.map_cons, PyData.shownAll]; exact List.mem_cons_self ..)
          obtain ⟨c1, c2⟩ := DdKv.sh I ds _ _ _ h2 hk2 p3 hs1'.2 hs2'.2 (fun t ht => z1 t (by simp only [List.map_cons, PyData.shownAll]; exact List.mem_cons_of_mem _ ht)) (fun t ht => z2 t (by simp only [List.map_cons, PyData.shownAll]; exact List.mem_cons_of_mem _ ht))
          simp only at p2
          refine ⟨?_, ?_⟩
          · rcases keyIs_shape (show keyIs (Sum.inr k) en.key = true from p1) with ⟨j, t3, z, _⟩ | ⟨y, t3, z, ez⟩
            · cases z
            · cases z
              simp only [List.map_cons]
              refine shAll_cons ?_ c1
              rw [ez]
              exact ⟨_, [], .str k t3, (fun _ h => nomatch h), by simp only [PyData.shown]; exact .of_is (ReprIs.str k t3 (by simpa only [PyData.shown] using hz1)) _ _ _⟩
          · simp only [List.map_cons]
            rw [p2]
            exact shAll_cons (Dd.sh I dv v _ h1 q2 hs2'.1 hz2) c2
end
/-- such a thing is shown by its own type -/
theorem Dd.shows (I : Inv X pins σ H s) {a : Addr} {d : PyData} (h : Dd X.K H (.ref a) d) (hs : d.showable = true) (hz : d.shown.length ≤ sizeLine) : ∃ T idr, ShowsBy X.prog X.w s.heap a d T idr := by
  cases h with
  | @lst _ xs ds e hall =>
    have hz' : (listText (PyData.shownAll ds)).length ≤ sizeLine := by simpa only [PyData.shown] using hz
    obtain ⟨its, rv, ⟨o, n, h1, h2, _, h3⟩, _⟩ := I.list e
    obtain ⟨as, bs, rd, hb, hk⟩ := DdAll.sh I ds xs its hall rv (by simpa [PyData.showable] using hs) (fun t ht => Nat.le_trans (listText_mem_le ht) hz')
    have rr : Reads s.heap (.ref a) (.list ds) _ := .list h1 h2 h3 rd
    have hna : a ∉ bs := not_mem_of_deeper rr (by simp only [PyData.depth]; omega) hb
    refine ⟨"list", "list.__repr__", F.slot_list_repr.toG, F.slot_list_str, F.slot_list_format, fun s' hk0 => ⟨o, hk0 _ _ h1, h2⟩, fun A E s' Q hg hu hk0 hQ => ?_⟩
    simp only [PyData.depth] at hu
    simp only [PyData.shown] at hQ
    cases its with
    | nil =>
      cases rd
      simp only [PyData.shownAll, listText_nil] at hQ
      exact call_list_repr_empty ⟨o, hk0 _ _ h1, h2⟩ (hk0 _ _ h1) h3 (hQ s'.heap _ _ fun _ _ e => e)
    | cons x l => exact call_list_reprK h1 h2 h3 hna (by simpa using hk.length_eq) (fun i y e => hk.item i y (by simpa using e)) hg (fun b _ => Clear.nil b) hu hk0 hQ hz'
  | @tup _ xs ds e hall =>
    have hz' : (tupleText (PyData.shownAll ds)).length ≤ sizeLine := by simpa only [PyData.shown] using hz
    obtain ⟨its, rv, ⟨o, h1, h2, n, h3⟩, _⟩ := I.tuple e
    obtain ⟨as, bs, rd, hb, hk⟩ := DdAll.sh I ds xs its hall rv (by simpa [PyData.showable] using hs) (fun t ht => Nat.le_trans (tupleText_mem_le ht) hz')
    have rr : Reads s.heap (.ref a) (.tuple ds) _ := .tuple h1 h2 h3 rd
    have hna : a ∉ bs := not_mem_of_deeper rr (by simp only [PyData.depth]; omega) hb
    refine ⟨"tuple", "tuple.__repr__", F.slot_tuple_repr, F.slot_tuple_str, F.slot_tuple_format, fun s' hk0 => ⟨o, hk0 _ _ h1, h2⟩, fun A E s' Q hg hu hk0 hQ => ?_⟩
    simp only [PyData.depth] at hu
    simp only [PyData.shown] at hQ
    exact call_tuple_reprK h1 h2 h3 hna hk hg (fun b _ => Clear.nil b) hu hk0 hQ hz'
  | @dct _ kvs ds e hall =>
    have hz' : (dictText (PyData.shownKv ds)).length ≤ sizeLine := by simpa only [PyData.shown] using hz
    obtain ⟨_, hsys, vs, hk, hD⟩ : kvs.length ≤ sizeLine ∧ (a == sysModules) = false ∧ ∃ vs, KV kvs vs ∧ s.heap.DictOf (mixKind X.prog X.w) a vs := I.hok a _ e
    obtain ⟨o, es, ep, h1, h2, h3, _, e5, _⟩ := hD
    obtain ⟨hs1, hs2⟩ := PyData.showableKv_split ds (by simpa [PyData.showable] using hs)
    obtain ⟨⟨as1, b1, r1, hb1, k1⟩, as2, b2, r2, hb2, k2⟩ := DdKv.sh I ds kvs vs es.toList hall hk e5 hs1 hs2
      (fun t ht => let ⟨p, hp, hl⟩ := PyData.shownKv_key_le ds t ht; Nat.le_trans hl (Nat.le_trans (dictText_mem_le hp) hz')) (fun t ht => let ⟨p, hp, hl⟩ := PyData.shownKv_val_le ds t ht; Nat.le_trans hl (Nat.le_trans (dictText_mem_le hp) hz'))
    have rr : Reads s.heap (.ref a) (.dict ds) _ := .dict h1 h2.1 h3 r1 r2
    have hb : ReadAtMost s.heap (PyData.depthKv ds) (b1 ++ b2) := (hb1.mono (PyData.depthAll_keys_le ds)).append (hb2.mono (PyData.depthAll_vals_le ds))
    have hna : a ∉ b1 ++ b2 := not_mem_of_deeper rr (by simp only [PyData.depth]; omega) hb
    refine ⟨"dict", "dict.__repr__", F.slot_dict_repr, F.slot_dict_str, F.slot_dict_format, fun s' hk0 => ⟨o, hk0 _ _ h1, h2.1⟩, fun A E s' Q hg hu hk0 hQ => ?_⟩
    simp only [PyData.depth] at hu
    simp only [PyData.shown, PyData.shownKv_eq] at hQ
    exact call_dict_reprK h1 h2.1 h3 hsys hna (ReprEntriesK.of_two es.toList _ _
      (k1.more_le (fun b hb => List.mem_append_left _ hb) (PyData.depthAll_keys_le ds)) (k2.more_le (fun b hb => List.mem_append_right _ hb) (PyData.depthAll_vals_le ds))) hg (fun b _ => Clear.nil b) hu hk0 hQ (by rw [← PyData.shownKv_eq]; exact hz')
/-- repr of data, dicts in it -/
def rReprG (K : PySem.W.Frag) : List V → Hp → VK → Prop := fun xs H Q => ∃ v d, xs = [v] ∧ Dd K H v d ∧ d.showable = true ∧ d.depth ≤ 60 ∧ d.shown.length ≤ sizeLine ∧ Q (.str d.shown) H
theorem call_reprG (hg : X.A.guards = some []) (hu : X.A.units + 64 < cLine) : CallR X (.builtin "repr") (rReprG X.K) := by
  intro pins s σ H xs us Q I r h
  obtain ⟨v, d, rfl, hd, hs, hdep, hz, q⟩ := h
  obtain ⟨u, rfl, rv⟩ := vals1 r
  cases v with
  | ref a =>
    cases rv
    obtain ⟨T, idr, S⟩ := hd.shows I hs hz
    refine call_repr_slot (by omega) (S.typeIs s fun _ _ e => e) S.slotRepr (S.call X.A.in1 X.xe s _ hg (by show X.A.units + 1 + d.depth < cLine; omega) (fun _ _ e => e) fun h' u tk hk => ⟨_, _, rfl, ?_⟩)
    exact ⟨.str d.shown, H, I.kept hk, ⟨_, rfl⟩, q⟩
  | non =>
    cases hd
    cases rv
    exact PySem.P.repr_of_none ⟨.str _, H, I.tok _, ⟨_, rfl⟩, q⟩
  | bl b =>
    cases hd
    cases rv
    refine PySem.P.repr_of_bool ⟨.str (PyData.shown (.bool b)), H, I.tok _, ⟨s.toks, ?_⟩, q⟩
    cases b <;> rfl
  | int i =>
    cases hd
    obtain ⟨t, rfl⟩ := rv
    exact PySem.P.repr_of_int (by simpa [PyData.showable] using hs) ⟨.str _, H, I.tok _, ⟨_, rfl⟩, q⟩
  | str x =>
    cases hd
    obtain ⟨t, rfl⟩ := rv
    exact PySem.P.repr_of_str ⟨.str _, H, I.tok _, ⟨_, rfl⟩, q⟩ hz
  | byt b => cases hd
  | flt b => cases hd
  | ty n => cases hd
end
/-! data stays -/
mutual
theorem Dd.same {K : PySem.W.Frag} {H H' : Hp} (s : Ext H H') : ∀ {d : PyData} {v : V}, Dd K H v d → Dd K H' v d
  | _, _, .non => .non
  | _, _, .bl b => .bl b
  | _, _, .int i => .int i
  | _, _, .str x => .str x
  | _, _, .lst e h => .lst (SqL.ext e s) (DdAll.same s h)
  | _, _, .tup e h => .tup (SqT.ext e s) (DdAll.same s h)
  | _, _, .dct e h => .dct (s _ _ e) (DdKv.same s h)
theorem DdAll.same {K : PySem.W.Frag} {H H' : Hp} (s : Ext H H') : ∀ {ds : List PyData} {vs : List V}, DdAll K H vs ds → DdAll K H' vs ds
  | _, _, .nil => .nil
  | _, _, .cons h t => .cons (Dd.same s h) (DdAll.same s t)
theorem DdKv.same {K : PySem.W.Frag} {H H' : Hp} (s : Ext H H') : ∀ {ds : List (PyData × PyData)} {vs : List (Key × V)}, DdKv K H vs ds → DdKv K H' vs ds
  | _, _, .nil => .nil
  | _, _, .cons h t => .cons (Dd.same s h) (DdKv.same s t)
end
end So

/-! a value as data over a part of memory that stays; text * int -/
namespace So
open PySem PySem.Spec PyProof.Rows L2
section
variable {X : Cx}
theorem op_mul_str : OpR X (binaryOp .Mult) (fun x y H Q => ∃ z n, x = .str z ∧ y = .int n ∧ MulOk z n ∧ Q (.str (Txt.mul z n)) H) := by
  intro pins s σ H x y v u Q I rx ry h
  obtain ⟨z, n, rfl, rfl, ok, q⟩ := h
  obtain ⟨t, rfl⟩ := rx
  obtain ⟨t', rfl⟩ := ry
  exact SB.mul ok fun t' k => ⟨.str (Txt.mul z n), H, I.tok _, ⟨_, rfl⟩, q⟩
end
/-- memory without p -/
def hole (p : Addr) (H : Hp) : Hp := fun b => if b = p then none else H b
theorem hole_ne {p b : Addr} {H : Hp} (h : b ≠ p) : hole p H b = H b := if_neg h
theorem hole_at {p : Addr} {H : Hp} : hole p H p = none := if_pos rfl
theorem hole_same {p : Addr} {H : Hp} : Same (hole p H) H := fun b o e => by
  by_cases z : b = p
  · subst z
    rw [hole_at] at e
    cases e
  · rwa [hole_ne z] at e
/-- v is the data d, by a part of memory that has no p -/
def Kp (K : PySem.W.Frag) (p : Addr) (H : Hp) (v : V) (d : PyData) : Prop := ∃ F, F p = none ∧ Same F H ∧ Dd K F v d
section
variable {K : PySem.W.Frag} {p : Addr} {H H' : Hp} {v : V} {d : PyData}
theorem Kp.same (h : Kp K p H v d) (s : Same H H') : Kp K p H' v d := h.elim fun F e => ⟨F, e.1, e.2.1.trans s, e.2.2⟩
theorem Kp.off (h : Kp K p H v d) (s : ∀ b o, b ≠ p → H b = some o → H' b = some o) : Kp K p H' v d := h.elim fun F e => ⟨F, e.1, fun b o z => s b o (fun y => by
  subst y
  rw [e.1] at z
  cases z) (e.2.1 b o z), e.2.2⟩
theorem Kp.dd (h : Kp K p H v d) : Dd K H v d := h.elim fun F e => Dd.same (fun b o z => e.2.1 b o z) e.2.2
theorem Kp.hole (h : Dd K (So.hole p H) v d) : Kp K p H v d := ⟨So.hole p H, hole_at, hole_same, h⟩
theorem Kp.at (h : Dd K H v d) (e : H p = none) (s : Same H H') : Kp K p H' v d := ⟨H, e, s, h⟩
theorem Kp.non : Kp K p H .non .none := .hole .non
theorem Kp.bl (b : Bool) : Kp K p H (.bl b) (.bool b) := .hole (.bl b)
theorem Kp.int (i : Int) : Kp K p H (.int i) (.int i) := .hole (.int i)
theorem Kp.str (z : Str) : Kp K p H (.str z) (.str z) := .hole (.str z)
end
end So

namespace K81
open PySem PySem.Spec PyProof.Rows L2 So TL
/-- what a line is: not long, of signs below 128 -/
def Lin (L : Nat) (z : Str) : Prop := z.length ≤ L ∧ asc z
/-- the words of a line, changed a little: their lengths together -/
def wsum (ws : List Str) : Nat := (ws.map (·.length)).sum + ws.length
theorem Lin.join {L : Nat} {ws : List Str} (h : wsum ws ≤ L) (ha : ∀ w ∈ ws, asc w) : Lin L (Txt.join " " ws) := ⟨Nat.le_trans (join_len ws) h, join_asc ha⟩
theorem wsum_set {ws : List Str} {i : Nat} {o : Str} (ho : o.length ≤ 32) : wsum (ws.set i o) ≤ wsum ws + 33 := by
  unfold wsum
  induction ws generalizing i with
  | nil => simp
  | cons a r ih =>
    cases i with
    | zero =>
      simp only [List.set_cons_zero, List.map_cons, List.sum_cons, List.length_cons]
      omega
    | succ i =>
      have := ih (i := i)
      simp only [List.set_cons_succ, List.map_cons, List.sum_cons, List.length_cons]
      omega
theorem wsum_erase {ws : List Str} {i : Nat} : wsum (ws.eraseIdx i) ≤ wsum ws := by
  unfold wsum
  induction ws generalizing i with
  | nil => simp
  | cons a r ih =>
    cases i with
    | zero =>
      simp only [List.eraseIdx_cons_zero, List.map_cons, List.sum_cons, List.length_cons]
      omega
    | succ i =>
      have := ih (i := i)
      simp only [List.eraseIdx_cons_succ, List.map_cons, List.sum_cons, List.length_cons]
      omega
theorem ixN_nat' {n j : Nat} (hj : j < n) : ixN n (j : Int) = some j := by
  unfold ixN
  rw [if_pos (by omega), if_pos (by omega)]
  simp
theorem map_erase {α β : Type} (f : α → β) : ∀ (l : List α) (i : Nat), (l.eraseIdx i).map f = (l.map f).eraseIdx i
  | [], _ => by simp
  | a :: r, 0 => rfl
  | a :: r, i + 1 => by simp [map_erase f r i]
theorem wsum_app (a b : List Str) : wsum (a ++ b) = wsum a + wsum b := by
  unfold wsum
  rw [List.map_append, List.sum_append, List.length_append]
  omega
theorem wsum_ins {ws : List Str} {i : Nat} {o : Str} (ho : o.length ≤ 32) : wsum (ws.take i ++ [o] ++ ws.drop i) ≤ wsum ws + 33 := by
  have h := wsum_app (ws.take i) (ws.drop i)
  rw [List.take_append_drop] at h
  rw [wsum_app, wsum_app]
  have : wsum [o] = o.length + 1 := by simp [wsum]
  omega
def small (o : Str) : Bool := decide (o.length ≤ 32) && o.cps.toList.all fun c => decide (c < 128)
theorem small_of {o : Str} (h : small o = true) : o.length ≤ 32 ∧ asc o := by
  unfold small at h
  rw [Bool.and_eq_true] at h
  exact ⟨of_decide_eq_true h.1, fun c hc => of_decide_eq_true (List.all_eq_true.mp h.2 c hc)⟩
theorem asc_app {a b : Str} (ha : asc a) (hb : asc b) : asc (a ++ b) := by
  intro c hc
  have hc : c ∈ tl (a ++ b) := hc
  rw [tl_append] at hc
  rcases List.mem_append.mp hc with h | h
  · exact ha c h
  · exact hb c h
theorem wsum_setw {ws : List Str} {i : Nat} {x o : Str} (h : ws[i]? = some x) (ho : o.length ≤ x.length + 2) : wsum (ws.set i o) ≤ wsum ws + 2 := by
  unfold wsum
  induction ws generalizing i with
  | nil => simp at h
  | cons a r ih =>
    cases i with
    | zero =>
      have h : a = x := by simpa using h
      subst h
      simp only [List.set_cons_zero, List.map_cons, List.sum_cons, List.length_cons]
      omega
    | succ i =>
      have := ih (i := i) (by simpa using h)
      simp only [List.set_cons_succ, List.map_cons, List.sum_cons, List.length_cons]
      omega
theorem mem_wsum {ws : List Str} {y : Str} (h : y ∈ ws) : y.length ≤ wsum ws := by
  unfold wsum
  induction ws with
  | nil => cases h
  | cons a r ih =>
    rw [List.map_cons, List.sum_cons, List.length_cons]
    rcases List.mem_cons.mp h with h | h
    · subst h
      omega
    · have := ih h
      omega
theorem off_none {p q : Addr} {H G : Hp} (h : Off p H G) (hq : G q = none) (n : q ≠ p) : H q = none := by
  cases e : H q with
  | none => rfl
  | some o => exact (h _ _ n e).symm.trans hq |> fun z => nomatch z
theorem wsum_rev (ws : List Str) : wsum ws.reverse = wsum ws := by
  induction ws with
  | nil => rfl
  | cons a r ih =>
    rw [List.reverse_cons, wsum_app, ih, show a :: r = [a] ++ r from rfl, wsum_app]
    omega
theorem Off.over {p a : Addr} {H G : Hp} {u : HO} (h : Off p H G) (ha : H a = none) : Off p H (L2.upd G a u) := fun b o n e => (upd_ne (ne_of_none e ha)).trans (h b o n e)
theorem Pen.upd {H : Hp} {p l D : Addr} {ns : List Int} {n : Nat} {g : Int} {o : HO} (h : Pen H p l ns n g) (h1 : D ≠ p) (h2 : D ≠ l) : Pen (L2.upd H D o) p l ns n g :=
  ⟨(upd_ne h1.symm).trans h.pen, (upd_ne h2.symm).trans h.cells, h.left⟩
theorem pen_same {H H' : Hp} {p l : Addr} {ns : List Int} {n : Nat} {g : Int} (h : Pen H p l ns n g) (s : Same H H') : Pen H' p l ns n g := ⟨s _ _ h.pen, s _ _ h.cells, h.left⟩
/-! ### signs -/
theorem aln_small : ∀ c ∈ (letters ++ digits).cps.toList, c < 128 := by decide +kernel
theorem name_small {z : Str} (h : isName z = true) : ∀ c ∈ z.cps.toList, c < 128 := by
  unfold isName at h
  simp only [Bool.and_eq_true] at h
  intro c hc
  exact aln_small c (of_decide_eq_true (List.all_eq_true.mp h.2 c hc))
theorem name_strOk {z : Str} (h : isName z = true) : PyData.strOk z = true := by
  unfold PyData.strOk
  rw [← Array.all_toList]
  exact List.all_eq_true.mpr fun c hc => decide_eq_true (Nat.lt_trans (name_small h c hc) (by decide))
theorem name_free {z : Str} (h : isName z = true) : 32 ∉ tl z ∧ 10 ∉ tl z := by
  unfold isName at h
  simp only [Bool.and_eq_true] at h
  constructor <;> intro hm
  · have := List.all_eq_true.mp h.2 32 hm
    revert this
    decide +kernel
  · have := List.all_eq_true.mp h.2 10 hm
    revert this
    decide +kernel
theorem mom_log {m : Int} (h : 0 ≤ m ∧ m ≤ 1000000000000000000000000000000) : m.natAbs.log2 < 1920 := by
  have : m.natAbs < 2 ^ 100 := by omega
  exact Nat.lt_of_lt_of_le (PySem.Flt.log2_lt_of (by decide) this) (by decide)
theorem neSame {s : Str} : ¬ ((!decide (V.str s = V.str s)) = true) := by simp
section
variable {K : PySem.W.Frag} {mg : Str → Option Value}
theorem own {H : Hp} {C x y : Addr} {z v : Str} {m : Int} {g : Bool → Bool} {Q : VK} {E : XK} (T : Ent K mg C) (A1 : At C H x z m v) (A2 : At C H y z m v) (h : Q (.bl (g true)) H) :
    rOwn C K (spEq K C) E g (.ref x) (.ref y) H Q := by
  obtain ⟨d1, h1⟩ := id A1
  obtain ⟨d2, h2⟩ := id A2
  refine ⟨x, d1, _, .ref C, rfl, h1, .base (.ins h2 T.cl T.ha T.hn T.htk T.hm), by simp [PySem.W.notFirst], x, .ref y, z, v, m, rfl, A1, .inl ⟨y, z, v, m, rfl, A2, _, rfl, ?_⟩⟩
  have e : (decide (z = z) && decide (m = m) && decide (v = v)) = true := by simp
  rw [e]
  exact h
theorem At.same {C a : Addr} {H H' : Hp} {z : Str} {m : Int} {v : Str} (h : At C H a z m v) (s : Same H H') : At C H' a z m v := h.elim fun dx e => ⟨dx, s _ _ e⟩
end
theorem At.off {C a p : Addr} {H H' : Hp} {z : Str} {m : Int} {v : Str} {xs : List V} (h : At C H a z m v) (hp : H p = some (.lst xs)) (s : Off p H H') : At C H' a z m v := h.elim fun dx e => ⟨dx, s _ _ (ne_of e hp (fun z => nomatch z)) e⟩
/-! ### the text of an entry -/
theorem ent_join (z : Str) (m : Int) (y : Str) : entText z m y = Txt.join " " ["check", z, Str.ofString (toString m), "by", y] := by
  refine ext_tl ?_
  rw [join_eq, tl_join]
  unfold entText
  rw [tl_append, tl_append, tl_append, tl_append, tl_append, tl_append]
  have e1 : tl ("check " : Str) = tl ("check" : Str) ++ tl (" " : Str) := by decide +kernel
  have e2 : tl (" by " : Str) = tl (" " : Str) ++ (tl ("by" : Str) ++ tl (" " : Str)) := by decide +kernel
  have e3 : tl Str.empty = [] := rfl
  rw [e1, e2, e3]
  show _ = tl ("check" : Str) ++ (tl " " ++ (tl z ++ (tl " " ++ (tl (Str.ofString (toString m)) ++ (tl " " ++ (tl ("by" : Str) ++ (tl " " ++ tl y)))))))
  simp [List.append_assoc]
theorem num_of {m : Int} (h : 0 ≤ m ∧ m ≤ 1000000000000000000000000000000) : isNum (Str.ofString (toString m)) = true ∧ ((numOf (Str.ofString (toString m)) : Nat) : Int) = m ∧ (32 ∉ tl (Str.ofString (toString m)) ∧ 10 ∉ tl (Str.ofString (toString m))) ∧ asc (Str.ofString (toString m)) ∧ (Str.ofString (toString m)).length ≤ 31 := by
  obtain ⟨k, rfl⟩ : ∃ k : Nat, m = k := ⟨m.toNat, by omega⟩
  have e := tl_num k
  have hl : (numL k).length ≤ 31 := numL_len (by decide) (by omega)
  have hlen : (Str.ofString (toString ((k : Nat) : Int))).length = (numL k).length := by rw [TL.len_tl, e]
  have hn : numOf (Str.ofString (toString ((k : Nat) : Int))) = k := by
    show NumText.digitsVal (tl _) = k
    rw [e, numL_val]
  have hd : (Str.ofString (toString ((k : Nat) : Int))).cps.toList.all isDig = true := by
    show (tl (Str.ofString (toString ((k : Nat) : Int)))).all isDig = true
    rw [e]
    exact List.all_eq_true.mpr fun c hc => dig_of (numL_digits k c hc)
  have h1 : 1 ≤ (Str.ofString (toString ((k : Nat) : Int))).length := by
    rw [hlen]
    have := numL_ne k
    cases q : numL k with
    | nil => exact absurd q this
    | cons a r => simp
  refine ⟨?_, by rw [hn], ?_, ?_, by rw [hlen]; exact hl⟩
  · rw [isNum_text h1 (by rw [hlen]; exact hl) hd, hn, decide_eq_true rfl]
    exact decide_eq_true h.2
  · rw [e]
    exact ⟨numL_free (.inl (by decide)), numL_free (.inl (by decide))⟩
  · intro c hc
    have hc : c ∈ tl (Str.ofString (toString ((k : Nat) : Int))) := hc
    rw [e] at hc
    have := numL_digits k c hc
    omega
section
variable {z y : Str} {m : Int}
theorem ent_parts (hz : isName z = true) (hm : 0 ≤ m ∧ m ≤ 1000000000000000000000000000000) (hy : isName y = true) : ∀ p ∈ [("check" : Str), z, Str.ofString (toString m), "by", y], 32 ∉ tl p ∧ 10 ∉ tl p := by
  intro p hp
  simp only [List.mem_cons, List.not_mem_nil, or_false] at hp
  rcases hp with h | h | h | h | h <;> subst h
  · decide +kernel
  · exact name_free hz
  · exact (num_of hm).2.2.1
  · decide +kernel
  · exact name_free hy
theorem ent_split (hz : isName z = true) (hm : 0 ≤ m ∧ m ≤ 1000000000000000000000000000000) (hy : isName y = true) : Txt.split (entText z m y) " " = [("check" : Str), z, Str.ofString (toString m), "by", y] := by
  rw [ent_join]
  exact TL.split_join (y := " ") (s := 32) (S := []) (by decide +kernel) (by decide +kernel) (by simp) fun p hp => (ent_parts hz hm hy p hp).1
theorem one_line {u : Str} (h : 10 ∉ tl u) : Txt.split u "\n" = [u] := by
  have e : Txt.join "\n" [u] = u := by
    refine ext_tl ?_
    rw [join_eq, tl_join]
    rfl
  have := TL.split_join (y := "\n") (s := 10) (S := []) (parts := [u]) (by decide +kernel) (by decide +kernel) (by simp) fun p hp => by
    rw [List.mem_singleton.mp hp]
    exact h
  rw [e] at this
  exact this
theorem ent_line (hz : isName z = true) (hm : 0 ≤ m ∧ m ≤ 1000000000000000000000000000000) (hy : isName y = true) : Txt.split (entText z m y) "\n" = [entText z m y] := by
  refine one_line fun h => ?_
  rw [ent_join, join_eq, tl_join] at h
  rcases of_joinL h with h | ⟨p, hp, h⟩
  · revert h
    decide +kernel
  · obtain ⟨q, hq, rfl⟩ := List.mem_map.mp hp
    exact (ent_parts hz hm hy q hq).2 h
theorem ent_fw (hz : isName z = true) (hm : 0 ≤ m ∧ m ≤ 1000000000000000000000000000000) (hy : isName y = true) : fw (Txt.split (entText z m y) " ") F5 0 = none := by
  have h1 : hasForm "name" z = true := hz
  have h2 : hasForm "moment" (Str.ofString (toString m)) = true := (num_of hm).1
  have h3 : hasForm "name" y = true := hy
  have h4 : hasForm "check" "check" = true := by decide +kernel
  have h5 : hasForm "by" "by" = true := by decide +kernel
  rw [ent_split hz hm hy]
  unfold F5
  rw [fw_cons, if_pos h4, fw_cons, if_pos h1, fw_cons, if_pos h2, fw_cons, if_pos h5, fw_cons, if_pos h3]
  rfl
theorem ent_lin (hz : isName z = true) (hm : 0 ≤ m ∧ m ≤ 1000000000000000000000000000000) (hy : isName y = true) : Lin 60 (entText z m y) := by
  obtain ⟨_, _, _, h4, h5⟩ := num_of hm
  rw [ent_join]
  refine ⟨Nat.le_trans (join_len _) ?_, join_asc fun w hw => ?_⟩
  · have h1 := name_len hz
    have h2 := name_len hy
    have h3 : ("check" : Str).length = 5 := by decide
    have h6 : ("by" : Str).length = 2 := by decide
    simp only [List.map_cons, List.map_nil, List.sum_cons, List.sum_nil, List.length_cons, List.length_nil, h3, h6]
    omega
  · simp only [List.mem_cons, List.not_mem_nil, or_false] at hw
    rcases hw with h | h | h | h | h <;> subst h
    · exact (small_of (o := "check") (by decide +kernel)).2
    · exact name_small hz
    · exact h4
    · exact (small_of (o := "by") (by decide +kernel)).2
    · exact name_small hy
end
/-- a text that tells an entry is its text -/
theorem told_ent {u p0 b c e : Str} (hl : Txt.split u "\n" = [p0]) (hs : Txt.split p0 " " = [("check" : Str), b, c, ("by" : Str), e]) (hw : fw (Txt.split p0 " ") F5 0 = none) :
    isName b = true ∧ isNum c = true ∧ isName e = true ∧ entText b ((numOf c : Nat) : Int) e = u := by
  rw [hs] at hw
  obtain ⟨_, hall⟩ := fw_none hw
  have g0 : isName b = true := hall 1 b "name" rfl rfl
  have g1 : isNum c = true := hall 2 c "moment" rfl rfl
  have g2 : isName e = true := hall 4 e "name" rfl rfl
  refine ⟨g0, g1, g2, ?_⟩
  obtain ⟨h1, h2, h3, _⟩ := isNum_le g1
  have e1 := isNum_text h1 h2 h3
  rw [g1] at e1
  have e1 := e1.symm
  rw [Bool.and_eq_true] at e1
  rw [ent_join, of_decide_eq_true e1.1, join_eq, ← hs]
  have e2 : Str.join " " (Txt.split p0 " ") = p0 := StrLaws.join_split p0 " "
  have e3 : Str.join "\n" (Txt.split u "\n") = u := StrLaws.join_split u "\n"
  rw [hl] at e3
  rw [e2, ← e3]
  refine ext_tl ?_
  rw [tl_join]
  rfl
theorem fw_le : ∀ {ws fs : List Str} {k n : Nat}, fw ws fs k = some n → n ≤ k + fs.length
  | ws, [], k, n, h => by
    rw [fw_end] at h
    split at h
    · cases h
    · cases h
      exact Nat.le_refl _
  | [], f :: fs, k, n, h => by
    have h : some k = some n := h
    cases h
    exact Nat.le_add_right _ _
  | w :: ws, f :: fs, k, n, h => by
    rw [fw_cons] at h
    split at h
    · have := fw_le h
      rw [List.length_cons]
      omega
    · cases h
      exact Nat.le_add_right _ _
def dT (i : Nat) (n : Nat) : PyData := .tuple [.int (i : Nat), .int (n : Nat)]
theorem dT_ok : ∀ i ≤ 1, ∀ n ≤ 5, (dT i n).showable = true ∧ (dT i n).depth ≤ 60 ∧ (dT i n).shown.length ≤ 100 := by decide +kernel
theorem dp_dT {K : PySem.W.Frag} {H : Hp} {t : Addr} {i n : Nat} (h : H t = some (.tup [.int (i : Nat), .int (n : Nat)])) : Dp K H (.ref t) (dT i n) :=
  .tup (SqT.of h) (.cons (.int _) (.cons (.int _) .nil))
theorem fw_empty : Txt.split ("" : Str) "\n" = [("" : Str)] ∧ fw (Txt.split ("" : Str) " ") F5 0 = some 0 := by decide +kernel
theorem fw_check : Txt.split ("check" : Str) "\n" = [("check" : Str)] ∧ fw (Txt.split ("check" : Str) " ") F5 0 = some 1 := by decide +kernel
end K81

namespace K81
open PySem PySem.Spec PyProof.Rows L2 So TL
/-! ### a plan's words, and the plan that words tell -/
/-- the words of an entry -/
def E5 (z : Str) (m : Int) (y : Str) : List Str := ["check", z, Str.ofString (toString m), "by", y]
def Pl.ws : Pl → List Str
  | .none => ["none"]
  | .done => ["done"]
  | .ask z m y p f => E5 z m y ++ (p.ws ++ f.ws)
def parse (ws : List Str) : Nat → Nat → Bool → Nat ⊕ (Pl × Nat)
  | 0, at', mb => if ws.getD at' "" = ("done" : Str) then .inr (.done, at' + 1) else if ws.getD at' "" = ("none" : Str) ∧ mb = true then .inr (.none, at' + 1) else .inl at'
  | d + 1, at', mb => if ws.getD at' "" = ("done" : Str) then .inr (.done, at' + 1) else if ws.getD at' "" = ("none" : Str) ∧ mb = true then .inr (.none, at' + 1) else
    if ws.getD at' "" = ("check" : Str) then
      match fw ((ws.drop at').take 5) F5 0 with
      | some n => .inl (at' + n)
      | none =>
        match parse ws d (at' + 5) true with
        | .inl n => .inl n
        | .inr (p, b) =>
          match parse ws d b (decide (p ≠ .none)) with
          | .inl n => .inl n
          | .inr (f, e) => .inr (.ask (ws.getD (at' + 1) "") ((numOf (ws.getD (at' + 2) "") : Nat) : Int) (ws.getD (at' + 4) "") p f, e)
    else .inl at'
theorem ws_ne (pl : Pl) : pl.ws ≠ [] := by
  cases pl <;> simp [Pl.ws, E5]
/-- parse when none may not be, or is not there -/
theorem parse_mb {ws : List Str} {d a : Nat} {mb : Bool} (h : ¬ (ws.getD a "" = ("none" : Str) ∧ mb = true)) : parse ws d a mb = parse ws d a false := by
  have h2 : ¬ (ws.getD a "" = ("none" : Str) ∧ false = true) := fun e => by cases e.2
  cases d with
  | zero =>
    unfold parse
    rw [if_neg h, if_neg h2]
  | succ d =>
    unfold parse
    rw [if_neg h, if_neg h2]
theorem none_done : ¬ ("none" : Str) = "done" := by decide +kernel
theorem check_done : ¬ ("check" : Str) = "done" := by decide +kernel
theorem check_none : ¬ ("check" : Str) = "none" := by decide +kernel
theorem parse_none {ws : List Str} {d a : Nat} (h : ws.getD a "" = ("none" : Str)) : parse ws d a true = .inr (.none, a + 1) := by
  cases d <;> (unfold parse; rw [h, if_neg none_done, if_pos ⟨rfl, rfl⟩])
theorem getD_eq {ws : List Str} {i : Nat} {x : Str} (h : ws[i]? = some x) : ws.getD i "" = x := by
  rw [List.getD_eq_getElem?_getD, h]; rfl
theorem F5_len : F5.length = 5 := rfl
/-- the words of a written plan are read as it -/
theorem parse_ws : ∀ (pl : Pl) (pre suf : List Str) (d : Nat) (mb : Bool), pl.Ok → pl.depth ≤ d → (pl = .none → mb = true) → parse (pre ++ (pl.ws ++ suf)) d pre.length mb = .inr (pl, pre.length + pl.ws.length)
  | .none, pre, suf, d, mb, _, _, h => by
    have e : (pre ++ (Pl.none.ws ++ suf)).getD pre.length "" = ("none" : Str) := getD_eq (by rw [List.getElem?_append_right (Nat.le_refl _), Nat.sub_self]; rfl)
    rw [h rfl, parse_none e]
    rfl
  | .done, pre, suf, d, mb, _, _, _ => by
    have e : (pre ++ (Pl.done.ws ++ suf)).getD pre.length "" = ("done" : Str) := getD_eq (by rw [List.getElem?_append_right (Nat.le_refl _), Nat.sub_self]; rfl)
    cases d <;> (unfold parse; rw [if_pos e]; rfl)
  | .ask z m y p f, pre, suf, d, mb, ho, hd, _ => by
    obtain ⟨hE, hn, hp, hf⟩ := ho
    unfold Pl.depth at hd
    obtain ⟨d, rfl⟩ : ∃ d', d = d' + 1 := ⟨d - 1, by omega⟩
    have at_ : ∀ i, (pre ++ ((Pl.ask z m y p f).ws ++ suf))[pre.length + i]? = (E5 z m y ++ (p.ws ++ (f.ws ++ suf)))[i]? := fun i => by
      rw [List.getElem?_append_right (by omega), Nat.add_sub_cancel_left, show (Pl.ask z m y p f).ws = E5 z m y ++ (p.ws ++ f.ws) from rfl]
      simp only [List.append_assoc]
    have e0 : (pre ++ ((Pl.ask z m y p f).ws ++ suf)).getD pre.length "" = ("check" : Str) := getD_eq (at_ 0)
    have e1 : (pre ++ ((Pl.ask z m y p f).ws ++ suf)).getD (pre.length + 1) "" = z := getD_eq (at_ 1)
    have e2 : (pre ++ ((Pl.ask z m y p f).ws ++ suf)).getD (pre.length + 2) "" = Str.ofString (toString m) := getD_eq (at_ 2)
    have e4 : (pre ++ ((Pl.ask z m y p f).ws ++ suf)).getD (pre.length + 4) "" = y := getD_eq (at_ 4)
    have ek : ((pre ++ ((Pl.ask z m y p f).ws ++ suf)).drop pre.length).take 5 = E5 z m y := by
      rw [List.drop_left]
      unfold Pl.ws
      rfl
    have efw : fw (E5 z m y) F5 0 = none := by
      have := ent_fw hE.z hE.m hE.y
      rw [ent_split hE.z hE.m hE.y] at this
      exact this
    have g1 : pre ++ ((Pl.ask z m y p f).ws ++ suf) = (pre ++ E5 z m y) ++ (p.ws ++ (f.ws ++ suf)) := by
      rw [show (Pl.ask z m y p f).ws = E5 z m y ++ (p.ws ++ f.ws) from rfl]
      simp only [List.append_assoc]
    have l1 : (pre ++ E5 z m y).length = pre.length + 5 := by rw [List.length_append]; rfl
    have h1 := parse_ws p (pre ++ E5 z m y) (f.ws ++ suf) d true hp (by omega) (fun _ => rfl)
    rw [← g1, l1] at h1
    have g2 : pre ++ ((Pl.ask z m y p f).ws ++ suf) = (pre ++ E5 z m y ++ p.ws) ++ (f.ws ++ suf) := by
      rw [g1]
      simp only [List.append_assoc]
    have l2 : (pre ++ E5 z m y ++ p.ws).length = pre.length + 5 + p.ws.length := by rw [List.length_append, l1]
    have h2 := parse_ws f (pre ++ E5 z m y ++ p.ws) suf d (decide (p ≠ .none)) hf (by omega) (fun e => decide_eq_true fun e2 => hn ⟨e2, e⟩)
    rw [← g2, l2] at h2
    unfold parse
    rw [if_neg (by rw [e0]; exact check_done), if_neg (by rw [e0]; exact fun h => check_none h.1), if_pos e0, ek, efw]
    simp only [h1, h2]
    rw [e1, e2, e4, (num_of hE.m).2.1]
    have : (Pl.ask z m y p f).ws.length = 5 + (p.ws.length + f.ws.length) := by
      rw [show (Pl.ask z m y p f).ws = E5 z m y ++ (p.ws ++ f.ws) from rfl, List.length_append, List.length_append]
      rfl
    rw [this]
    congr 2
    omega
/-- what is read is what the words say -/
theorem parse_of : ∀ (ws : List Str) (d a : Nat) (mb : Bool) (pl : Pl) (e : Nat), parse ws d a mb = .inr (pl, e) → pl.Ok ∧ pl.depth ≤ d ∧ (pl = .none → mb = true) ∧ a < e ∧ e ≤ ws.length ∧ (ws.take e).drop a = pl.ws := by
  have base : ∀ (ws : List Str) (a : Nat) (x : Str), ws.getD a "" = x → x ≠ "" → a + 1 ≤ ws.length ∧ (ws.take (a + 1)).drop a = [x] := fun ws a x h n => by
    rw [List.getD_eq_getElem?_getD] at h
    cases q : ws[a]? with
    | none =>
      rw [q] at h
      exact absurd h.symm n
    | some y =>
      rw [q] at h
      have h : y = x := h
      subst h
      obtain ⟨hlt, e⟩ := List.getElem?_eq_some_iff.mp q
      refine ⟨hlt, ?_⟩
      rw [List.take_add_one, q, List.drop_append_of_le_length (by rw [List.length_take]; omega), List.drop_eq_nil_of_le (by rw [List.length_take]; omega)]
      rfl
  have nd : ("done" : Str) ≠ "" := by decide +kernel
  have nn : ("none" : Str) ≠ "" := by decide +kernel
  intro ws d
  induction d with
  | zero =>
    intro a mb pl e h
    unfold parse at h
    split at h
    · rename_i c
      cases h
      exact ⟨trivial, Nat.le_refl _, (fun z => by cases z), Nat.lt_succ_self _, base _ _ _ c nd⟩
    · split at h
      · rename_i c
        cases h
        exact ⟨trivial, Nat.le_refl _, (fun _ => c.2), Nat.lt_succ_self _, base _ _ _ c.1 nn⟩
      · cases h
  | succ d ih =>
    intro a mb pl e h
    unfold parse at h
    split at h
    · rename_i c
      cases h
      exact ⟨trivial, Nat.zero_le _, (fun z => by cases z), Nat.lt_succ_self _, base _ _ _ c nd⟩
    · split at h
      · rename_i c
        cases h
        exact ⟨trivial, Nat.zero_le _, (fun _ => c.2), Nat.lt_succ_self _, base _ _ _ c.1 nn⟩
      · split at h
        · rename_i hc
          split at h
          · cases h
          · rename_i hw
            split at h
            · cases h
            · rename_i p b h1
              split at h
              · cases h
              · rename_i f e' h2
                cases h
                obtain ⟨o1, d1, _, lt1, le1, w1⟩ := ih _ _ _ _ h1
                obtain ⟨o2, d2, n2, lt2, le2, w2⟩ := ih _ _ _ _ h2
                obtain ⟨hlen, hall⟩ := fw_none hw
                have hlen : ((ws.drop a).take 5).length = 5 := hlen
                obtain ⟨w0, wz, wm, wb, wy, e5⟩ : ∃ w0 wz wm wb wy, (ws.drop a).take 5 = [w0, wz, wm, wb, wy] := by
                  generalize (ws.drop a).take 5 = l at hlen
                  match l, hlen with
                  | [w0, w1, w2, w3, w4], _ => exact ⟨w0, w1, w2, w3, w4, rfl⟩
                rw [e5] at hall
                have g0 : w0 = ("check" : Str) := by
                  have := hall 0 w0 "check" rfl rfl
                  rw [check_form'] at this
                  exact of_decide_eq_true this
                have g1 : isName wz = true := hall 1 wz "name" rfl rfl
                have g2 : isNum wm = true := hall 2 wm "moment" rfl rfl
                have g3 : wb = ("by" : Str) := by
                  have := hall 3 wb "by" rfl rfl
                  rw [by_form'] at this
                  exact of_decide_eq_true this
                have g4 : isName wy = true := hall 4 wy "name" rfl rfl
                have gi : ∀ i, i < 5 → ws[a + i]? = [w0, wz, wm, wb, wy][i]? := fun i hi => by
                  rw [← e5, List.getElem?_take_of_lt hi, List.getElem?_drop]
                rw [getD_eq (gi 1 (by decide)), getD_eq (gi 2 (by decide)), getD_eq (gi 4 (by decide))]
                obtain ⟨q1, q2, q3, q4⟩ := isNum_le g2
                have em := isNum_text q1 q2 q3
                rw [g2] at em
                have em := em.symm
                rw [Bool.and_eq_true] at em
                have em : Str.ofString (toString ((numOf wm : Nat) : Int)) = wm := of_decide_eq_true em.1
                refine ⟨⟨⟨g1, ⟨by omega, q4⟩, g4⟩, fun z => ?_, o1, o2⟩, ?_, (fun z => by cases z), by omega, le2, ?_⟩
                · exact of_decide_eq_true (n2 z.2) z.1
                · show max p.depth f.depth + 1 ≤ d + 1
                  omega
                · show _ = E5 wz ((numOf wm : Nat) : Int) wy ++ (p.ws ++ f.ws)
                  have e6 : E5 wz ((numOf wm : Nat) : Int) wy = (ws.drop a).take 5 := by
                    rw [e5]
                    subst g0 g3
                    unfold E5
                    rw [em]
                  rw [e6, ← w1, ← w2]
                  have t1 : (ws.take e).drop a = ((ws.take e).drop a).take 5 ++ ((ws.take e).drop a).drop 5 := (List.take_append_drop 5 _).symm
                  have t2 : ((ws.take e).drop a).take 5 = (ws.drop a).take 5 := by
                    rw [List.drop_take, List.take_take, Nat.min_eq_left (by omega)]
                  have t3 : ((ws.take e).drop a).drop 5 = (ws.take e).drop (a + 5) := by rw [List.drop_drop]
                  have t4 : (ws.take e).drop (a + 5) = ((ws.take e).drop (a + 5)).take (b - (a + 5)) ++ ((ws.take e).drop (a + 5)).drop (b - (a + 5)) := (List.take_append_drop _ _).symm
                  have t5 : ((ws.take e).drop (a + 5)).take (b - (a + 5)) = (ws.take b).drop (a + 5) := by
                    rw [List.drop_take, List.take_take, List.drop_take, Nat.min_eq_left (by omega)]
                  have t6 : ((ws.take e).drop (a + 5)).drop (b - (a + 5)) = (ws.take e).drop b := by
                    rw [List.drop_drop]
                    congr 1
                    omega
                  rw [t1, t2, t3, t4, t5, t6]
        · cases h
theorem parse_lt {ws : List Str} {d a e : Nat} {mb : Bool} {pl : Pl} (h : parse ws d a mb = .inr (pl, e)) : e ≤ ws.length := (parse_of ws d a mb pl e h).2.2.2.2.1
/-- an error stands at a place not behind the words -/
theorem parse_err : ∀ (ws : List Str) (d a : Nat) (mb : Bool) (n : Nat), parse ws d a mb = .inl n → a ≤ ws.length → n ≤ ws.length + 5 := by
  intro ws d
  induction d with
  | zero =>
    intro a mb n h ha
    unfold parse at h
    split at h
    · cases h
    · split at h
      · cases h
      · cases h
        omega
  | succ d ih =>
    intro a mb n h ha
    unfold parse at h
    split at h
    · cases h
    · split at h
      · cases h
      · split at h
        · split at h
          · rename_i k hk
            cases h
            have := fw_le hk
            rw [F5_len] at this
            omega
          · rename_i hw
            have hlen : ((ws.drop a).take 5).length = 5 := (fw_none hw).1
            rw [List.length_take, List.length_drop] at hlen
            split at h
            · rename_i k h1
              cases h
              exact ih _ _ _ h1 (by omega)
            · rename_i p b h1
              split at h
              · rename_i k h2
                cases h
                exact ih _ _ _ h2 (parse_lt h1)
              · cases h
        · cases h
          omega
end K81

/-! a part of an expression walked by itself: what follows it is said once -/
namespace So
open PySem PySem.Spec PyProof.Rows L2
theorem pe_cut {X : Cx} {e : Expr} {t : TE} (h : PE X e t) : PE X e (fun σ H Q => ∃ Q0 : VK, t σ H Q0 ∧ ∀ v H', Q0 v H' → Q v H') :=
  ⟨fun pins s σ H Q I ⟨Q0, h1, h2⟩ => thn (h.run pins s σ H Q0 I h1) fun u s' ⟨v, H', I', r, q⟩ => ⟨v, H', I', r, h2 v H' q⟩⟩
end So

namespace K81
open PySem PySem.Spec PyProof.Rows L2 So
abbrev sFrom : Stmt := topS 56
abbrev fromN : List Str := ["words", "at", "checks", "may_be_none", "word", "told", "wrong", "_", "tool", "moment", "by", "passed", "behind", "failed"]
theorem scFrom : FnScope fromN ["words", "at", "checks", "may_be_none"] (defScope sFrom) := ⟨rfl, rfl, rfl, by decide +kernel, rfl, by decide +kernel, by decide +kernel⟩
theorem cut_mid (xs : List V) (i k : Nat) (h : i ≤ xs.length) : cutV xs (some (i : Int)) (some ((i : Int) + (k : Nat))) = (xs.drop i).take k := by
  rw [show ((i : Int) + (k : Nat)) = (((i + k : Nat) : Nat) : Int) by omega]
  unfold cutV
  rw [HT.sIx_nat, HT.sIx_nat, Nat.min_eq_left h]
  by_cases c : i + k ≤ xs.length
  · rw [Nat.min_eq_left c, Nat.add_sub_cancel_left]
  · rw [Nat.min_eq_right (by omega), List.take_of_length_le (by rw [List.length_drop]; exact Nat.le_refl _), List.take_of_length_le (by rw [List.length_drop]; omega)]
theorem vstr_eq (a b : Str) : (decide (V.str a = V.str b)) = decide (a = b) := by
  by_cases h : a = b
  · rw [decide_eq_true h, decide_eq_true (by rw [h])]
  · rw [decide_eq_false h, decide_eq_false (fun y => h (V.str.inj y))]
section
variable {P : Program} {w : World} {K : PySem.W.Frag} {mg : Str → Option Value} {base : Heap}
def spFrom (CE C CB : Addr) (d : Nat) : Sp := fun vs H Q E => ∃ (a : Addr) (ws : List Str) (i : Nat) (mb : Bool), vs = [.ref a, .int (i : Nat), .int (4 - (d : Int)), .bl mb] ∧ d ≤ 4 ∧ H a = some (.lst (ws.map V.str)) ∧ (∀ z ∈ ws, z.length ≤ 2000) ∧ ws.length ≤ 3000 ∧ i ≤ ws.length ∧
  (∀ (pl : Pl) (e : Nat), parse ws d i mb = .inr (pl, e) → ∀ (H' : Hp) (t : Addr) (v : V), Same H H' → H' t = some (.tup [v, .int (e : Nat)]) → PlAt CE C H' v pl → Q (.ref t) H') ∧
  (∀ n : Nat, parse ws d i mb = .inl n → ∀ dd H', Same H H' → H' dd = some (.xd [("word", .int (n : Nat)), ("line", .int 0)]) → E (.ref CB) (some dd) H')
theorem ok_from {CN CM C CE CB f fB fI fF fT fA fD pA pD aK : Addr} {mc : Value} {fd fdB fdI fdF fdT fdA fdD : FuncData} (F : Fun K "plan_from" "plan_from" sFrom f fd) (gF : mg "plan_from" = some (.ref f)) (bSelf : Binds K fd ["words", "at", "checks", "may_be_none"] []) (W : Words K mg) (TE : Ent K mg CE) (T : Pln K mg C) (tM : ∃ t, mg "MOST_ENTRIES" = some (.int 4 t))
    (gK : mg "CHECK" = some (.ref aK)) (hK : ∀ H : Hp, SqT K H aK (F5.map V.str)) (O : TwoE K mg "BadText" "line" "word" CB fB fdB) (GB : FnOk P w K mg base CX0 1 fB fdB ["self", "line", "word"] (spTwoE CB "line" "word"))
    (M : Mk K CE fI) (bI : Binds K fdI ["self", "tool", "moment", "by"] []) (GI : FnOk P w K mg base (L2.CX P w) 4 fI fdI ["self", "tool", "moment", "by"] (spInit CN CM CE))
    (FF : Fun K "first_wrong" "first_wrong" sFirst fF fdF) (bF : Binds K fdF ["words", "forms"] []) (gFF : mg "first_wrong" = some (.ref fF)) (GF : FnOk P w K mg base CX0 3 fF fdF ["words", "forms"] (spFirst K))
    (FT : Fun K "told_by" "told_by" sTold fT fdT) (bT : Binds K fdT ["line", "words", "forms"] []) (gT : mg "told_by" = some (.ref fT)) (GT : FnOk P w K mg base (L2.CX P w) 4 fT fdT ["line", "words", "forms"] (spTold K CB))
    (SD : Sta K C mc "done" pD fD) (bD : Binds K fdD [] []) (GD : FnOk P w K mg base CX0 3 fD fdD [] (spPDone CE C))
    (SA : Sta K C mc "ask" pA fA) (bA : Binds K fdA ["entry", "passed", "failed"] []) (GA : FnOk P w K mg base CX0 3 fA fdA ["entry", "passed", "failed"] (spPAsk CE C)) :
    ∀ d, FnOk P w K mg base (L2.CX P w) (6 + d) f fd ["words", "at", "checks", "may_be_none"] (spFrom CE C CB d)
  | 0 => by
    refine F.okX (k := 5) scFrom (fun vs H Q E h => ?_) (fun cdv A outer s H vs Q E hr h => ?_)
    · obtain ⟨_, _, _, _, rfl, _⟩ := h
      rfl
    · obtain ⟨a, ws, i, mb, rfl, hd, ha, hz, hwl, hi, qy, qn⟩ := h
      have hr3 : Room 3 _ := hr.mono (by decide)
      have hr2 : Room 2 _ := hr.mono (by decide)
      obtain ⟨tM, hM⟩ := tM
      refine ⟨_, pss_cons (ps_set (i := 4) scFrom.nd rfl (.inl rfl) (pe_cut (pe_ifExp (pt_cmpR op_lt (pv 1) (pe_callB call_len_seq (by rfl) W.len PySem.boot_len (pa_cons (pv 0) pa_nil)) (nomark _)) (pe_ix ix_list (pv 0) (pv 1) (fun _ _ => rfl)) pe_str)))
        (pss_cons (ps_if (pt_cmpR op_eq (pv 4) pe_str (nomark _)) (pss_one (ps_ret (pe_tup (pa_cons (pe_sta0 (pe_glob (v := .ref C) rfl T.mgC rfl) SD GD hr3 bD pass0) (pa_cons (pe_op op_add (pv 1) pe_int) pa_nil))))) pss_nil)
        (C8.pss_cut (ps_if (PW.pt (pw_and (pt_cmpR op_eq (pv 4) pe_str (nomark _)) (pw_and1 (pt_val (pv 3))))) (pss_one (ps_ret (pe_tup (pa_cons pe_non (pa_cons (pe_op op_add (pv 1) pe_int) pa_nil))))) pss_nil)
        (C8.pss_cut (ps_if (PW.pt (pw_or (pt_cmpR op_ne (pv 4) pe_str (nomark _)) (pw_or1 (pt_cmpR op_eq (pv 2) (pe_glob (v := .int 4) rfl hM ⟨_, rfl⟩) (nomark _))))) (pss_one (ps_raiseTwo O GB rfl hr2 (takes_of rfl rfl rfl rfl) (by rfl) (pa_cons pe_int (pa_cons (pv 1) pa_nil)))) pss_nil)
        pss_dead))), ?_⟩
      have eL : (ws.map V.str).length = ws.length := List.length_map _
      refine ⟨fun v H' => v = .str (ws.getD i "") ∧ H' = H, ?_, ?_⟩
      · refine ⟨_, rfl, _, rfl, a, _, rfl, .inl (SqL.of ha), _, _, rfl, rfl, _, rfl, ite2 (fun c => ?_) (fun c => ?_)⟩
        · have c' : ((i : Nat) : Int) < (((ws.map V.str).length : Nat) : Int) := of_decide_eq_true c
          have hlt : i < ws.length := by omega
          exact ⟨_, rfl, _, rfl, a, _, _, _, rfl, rfl, SqL.of ha, atI_nat (j := i) (by rw [List.getElem?_map, List.getElem?_eq_getElem hlt]; rfl), by rw [getD_eq (List.getElem?_eq_getElem hlt)], rfl⟩
        · have c' : ¬ ((i : Nat) : Int) < (((ws.map V.str).length : Nat) : Int) := fun e => c (decide_eq_true e)
          refine ⟨?_, rfl⟩
          rw [List.getD_eq_getElem?_getD, List.getElem?_eq_none (by omega)]
          rfl
      rintro v H0 ⟨rfl, rfl⟩
      generalize hx : ws.getD i "" = x at *
      refine ⟨_, rfl, rfl, _, rfl, ite2 (fun c => ?_) (fun c => ?_)⟩
      · have c' : x = ("done" : Str) := V.str.inj (of_decide_eq_true c)
        refine ⟨rfl, rfl, fun H1 v s1 pv1 => ⟨_, rfl, _, _, rfl, rfl, by show 2 ≤ sizeLine; decide, fun t ht => ?_⟩⟩
        refine qy .done (i + 1) ?_ _ t v (s1.trans (same_upd0 ht)) upd_same (pv1.same (same_upd0 ht))
        unfold parse
        rw [hx, if_pos c']
      have c1 : ¬ x = ("done" : Str) := fun e => c (decide_eq_true (by rw [e]))
      clear c
      refine ⟨fun σ' G => σ' = [some (.ref a), some (.int (i : Nat)), some (.int (4 - ((0 : Nat) : Int))), some (.bl mb), some (.str x), none, none, none, none, none, none, none, none, none] ∧ G = H0 ∧ ¬ (x = ("none" : Str) ∧ mb = true), ?_, ?_⟩
      · refine ⟨_, rfl, rfl, _, rfl, ?_⟩
        rw [vstr_eq]
        by_cases c2 : x = ("none" : Str)
        · rw [decide_eq_true c2]
          refine iteT ⟨_, rfl, _, rfl, ?_⟩
          cases mb with
          | true =>
            refine iteT ⟨_, rfl, _, _, rfl, rfl, by show 2 ≤ sizeLine; decide, fun t ht => ?_⟩
            refine qy .none (i + 1) ?_ _ t .non (same_upd0 ht) upd_same rfl
            unfold parse
            rw [hx, if_neg c1, if_pos ⟨c2, rfl⟩]
          | false => exact iteF ⟨rfl, rfl, fun e => by cases e.2⟩
        · rw [decide_eq_false c2]
          exact iteF (iteF ⟨rfl, rfl, fun e => c2 e.1⟩)
      rintro σ' G ⟨rfl, rfl, c3⟩
      refine ⟨fun σ' G2 => σ' = [some (.ref a), some (.int (i : Nat)), some (.int (4 - ((0 : Nat) : Int))), some (.bl mb), some (.str x), none, none, none, none, none, none, none, none, none] ∧ G2 = G ∧ x = ("check" : Str) ∧ 0 < 0, ?_, ?_⟩
      · refine ⟨_, rfl, rfl, _, rfl, ?_⟩
        rw [vstr_eq]
        by_cases c4 : x = ("check" : Str)
        · rw [decide_eq_true c4, Bool.not_true]
          refine iteF ⟨_, rfl, rfl, _, rfl, ?_⟩
          rw [show decide (V.int (4 - ((0 : Nat) : Int)) = V.int 4) = true from rfl]
          refine iteT ⟨_, rfl, mkTwoV rfl fun dd H' s _ e => qn i ?_ dd H' s e⟩
          unfold parse
          rw [hx, if_neg c1, if_neg c3]
        · rw [decide_eq_false c4, Bool.not_false]
          refine iteT (iteT ⟨_, rfl, mkTwoV rfl fun dd H' s _ e => qn i ?_ dd H' s e⟩)
          unfold parse
          rw [hx, if_neg c1, if_neg c3]
      rintro σ' G2 ⟨rfl, rfl, c4, c5⟩
      exact absurd c5 (by omega)
  | d + 1 => by
    have GR := ok_from F gF bSelf W TE T tM gK hK O GB M bI GI FF bF gFF GF FT bT gT GT SD bD GD SA bA GA d
    refine F.okX (k := 6 + d) scFrom (fun vs H Q E h => ?_) (fun cdv A outer s H vs Q E hr h => ?_)
    · obtain ⟨_, _, _, _, rfl, _⟩ := h
      rfl
    · obtain ⟨a, ws, i, mb, rfl, hd, ha, hz, hwl, hi, qy, qn⟩ := h
      have hr5 : Room 5 _ := hr.mono (by omega)
      have hr4 : Room 4 _ := hr.mono (by omega)
      have hr3 : Room 3 _ := hr.mono (by omega)
      have hr2 : Room 2 _ := hr.mono (by omega)
      obtain ⟨tM, hM⟩ := tM
      refine ⟨_, pss_cons (ps_set (i := 4) scFrom.nd rfl (.inl rfl) (pe_cut (pe_ifExp (pt_cmpR op_lt (pv 1) (pe_callB call_len_seq (by rfl) W.len PySem.boot_len (pa_cons (pv 0) pa_nil)) (nomark _)) (pe_ix ix_list (pv 0) (pv 1) (fun _ _ => rfl)) pe_str)))
        (pss_cons (ps_if (pt_cmpR op_eq (pv 4) pe_str (nomark _)) (pss_one (ps_ret (pe_tup (pa_cons (pe_sta0 (pe_glob (v := .ref C) rfl T.mgC rfl) SD GD hr3 bD pass0) (pa_cons (pe_op op_add (pv 1) pe_int) pa_nil))))) pss_nil)
        (C8.pss_cut (ps_if (PW.pt (pw_and (pt_cmpR op_eq (pv 4) pe_str (nomark _)) (pw_and1 (pt_val (pv 3))))) (pss_one (ps_ret (pe_tup (pa_cons pe_non (pa_cons (pe_op op_add (pv 1) pe_int) pa_nil))))) pss_nil)
        (C8.pss_cut (ps_if (PW.pt (pw_or (pt_cmpR op_ne (pv 4) pe_str (nomark _)) (pw_or1 (pt_cmpR op_eq (pv 2) (pe_glob (v := .int 4) rfl hM ⟨_, rfl⟩) (nomark _))))) (pss_one (ps_raiseTwo O GB rfl hr2 (takes_of rfl rfl rfl rfl) (by rfl) (pa_cons pe_int (pa_cons (pv 1) pa_nil)))) pss_nil)
        (pss_cons (ps_set (i := 5) scFrom.nd rfl (.inl rfl) (pe_slice sl_list (pv 0) (po_some (pv 1)) (po_some (pe_op op_add (pv 1) (pe_callB call_len_seq (by rfl) W.len PySem.boot_len (pa_cons (pe_glob (v := .ref aK) rfl gK rfl) pa_nil))))))
        (pss_cons (ps_set (i := 6) scFrom.nd rfl (.inl rfl) (pe_call GF hr3 (by rfl) gFF FF.kp bF .nil pass0 (pa_cons (pv 5) (pa_cons (pe_glob (v := .ref aK) rfl gK rfl) pa_nil))))
        (pss_cons (ps_if (pt_cmpR op_notN (pv 6) pe_non (nomark _)) (pss_one (ps_raiseTwo O GB rfl hr2 (takes_of rfl rfl rfl rfl) (by rfl) (pa_cons pe_int (pa_cons (pe_op op_add (pv 1) (pv 6)) pa_nil)))) pss_nil)
        (pss_cons (ps_asg (pe_call GT hr4 (by rfl) gT FT.kp bT .nil (passes_call (takes_of rfl rfl rfl rfl) (fun _ _ _ _ h => h)) (pa_cons pe_int (pa_cons (pv 5) (pa_cons (pe_glob (v := .ref aK) rfl gK rfl) pa_nil))))
          (pg_lst rfl (pgs_cons (pg_name (i := 7) scFrom.nd rfl (Or.inl rfl)) (pgs_cons (pg_name (i := 8) scFrom.nd rfl (Or.inl rfl)) (pgs_cons (pg_name (i := 9) scFrom.nd rfl (Or.inl rfl)) (pgs_cons (pg_name (i := 7) scFrom.nd rfl (Or.inl rfl)) (pgs_cons (pg_name (i := 10) scFrom.nd rfl (Or.inl rfl)) pgs_nil)))))))
        (pss_cons (ps_asg (pe_call GR hr (by rfl) gF F.kp bSelf .nil (passes_call (takes_of rfl rfl rfl rfl) (fun _ _ _ _ h => h)) (pa_cons (pv 0) (pa_cons (pe_op op_add (pv 1) (pe_callB call_len_seq (by rfl) W.len PySem.boot_len (pa_cons (pe_glob (v := .ref aK) rfl gK rfl) pa_nil))) (pa_cons (pe_op op_add (pv 2) pe_int) (pa_cons pe_bl pa_nil)))))
          (pg_tup rfl (pgs_cons (pg_name (i := 11) scFrom.nd rfl (Or.inl rfl)) (pgs_cons (pg_name (i := 12) scFrom.nd rfl (Or.inl rfl)) pgs_nil))))
        (pss_cons (ps_asg (pe_call GR hr (by rfl) gF F.kp bSelf .nil (passes_call (takes_of rfl rfl rfl rfl) (fun _ _ _ _ h => h)) (pa_cons (pv 0) (pa_cons (pv 12) (pa_cons (pe_op op_add (pv 2) pe_int) (pa_cons (pe_cmpR op_notN (pv 11) pe_non (nomark _)) pa_nil)))))
          (pg_tup rfl (pgs_cons (pg_name (i := 13) scFrom.nd rfl (Or.inl rfl)) (pgs_cons (pg_name (i := 12) scFrom.nd rfl (Or.inl rfl)) pgs_nil))))
        (pss_one (ps_ret (pe_tup (pa_cons (pe_sta (pe_glob (v := .ref C) rfl T.mgC rfl) SA GA hr3 bA pass0 (pa_cons (pe_make M GI hr5 (by rfl) TE.mgC bI .nil (passes_call (takes_of rfl rfl rfl rfl) (fun _ _ _ _ h => h)) (pa_cons (pv 8) (pa_cons (pv 9) (pa_cons (pv 10) pa_nil)))) (pa_cons (pv 11) (pa_cons (pv 13) pa_nil)))) (pa_cons (pv 12) pa_nil)))))))))))))), ?_⟩
      have eL : (ws.map V.str).length = ws.length := List.length_map _
      refine ⟨fun v H' => v = .str (ws.getD i "") ∧ H' = H, ?_, ?_⟩
      · refine ⟨_, rfl, _, rfl, a, _, rfl, .inl (SqL.of ha), _, _, rfl, rfl, _, rfl, ite2 (fun c => ?_) (fun c => ?_)⟩
        · have c' : ((i : Nat) : Int) < (((ws.map V.str).length : Nat) : Int) := of_decide_eq_true c
          have hlt : i < ws.length := by omega
          exact ⟨_, rfl, _, rfl, a, _, _, _, rfl, rfl, SqL.of ha, atI_nat (j := i) (by rw [List.getElem?_map, List.getElem?_eq_getElem hlt]; rfl), by rw [getD_eq (List.getElem?_eq_getElem hlt)], rfl⟩
        · have c' : ¬ ((i : Nat) : Int) < (((ws.map V.str).length : Nat) : Int) := fun e => c (decide_eq_true e)
          refine ⟨?_, rfl⟩
          rw [List.getD_eq_getElem?_getD, List.getElem?_eq_none (by omega)]
          rfl
      rintro v H0 ⟨rfl, rfl⟩
      generalize hx : ws.getD i "" = x at *
      refine ⟨_, rfl, rfl, _, rfl, ite2 (fun c => ?_) (fun c => ?_)⟩
      · have c' : x = ("done" : Str) := V.str.inj (of_decide_eq_true c)
        refine ⟨rfl, rfl, fun H1 v s1 pv1 => ⟨_, rfl, _, _, rfl, rfl, by show 2 ≤ sizeLine; decide, fun t ht => ?_⟩⟩
        refine qy .done (i + 1) ?_ _ t v (s1.trans (same_upd0 ht)) upd_same (pv1.same (same_upd0 ht))
        unfold parse
        rw [hx, if_pos c']
      have c1 : ¬ x = ("done" : Str) := fun e => c (decide_eq_true (by rw [e]))
      clear c
      refine ⟨fun σ' G => σ' = [some (.ref a), some (.int (i : Nat)), some (.int (4 - ((d + 1 : Nat) : Int))), some (.bl mb), some (.str x), none, none, none, none, none, none, none, none, none] ∧ G = H0 ∧ ¬ (x = ("none" : Str) ∧ mb = true), ?_, ?_⟩
      · refine ⟨_, rfl, rfl, _, rfl, ?_⟩
        rw [vstr_eq]
        by_cases c2 : x = ("none" : Str)
        · rw [decide_eq_true c2]
          refine iteT ⟨_, rfl, _, rfl, ?_⟩
          cases mb with
          | true =>
            refine iteT ⟨_, rfl, _, _, rfl, rfl, by show 2 ≤ sizeLine; decide, fun t ht => ?_⟩
            refine qy .none (i + 1) ?_ _ t .non (same_upd0 ht) upd_same rfl
            unfold parse
            rw [hx, if_neg c1, if_pos ⟨c2, rfl⟩]
          | false => exact iteF ⟨rfl, rfl, fun e => by cases e.2⟩
        · rw [decide_eq_false c2]
          exact iteF (iteF ⟨rfl, rfl, fun e => c2 e.1⟩)
      rintro σ' G ⟨rfl, rfl, c3⟩
      refine ⟨fun σ' G2 => σ' = [some (.ref a), some (.int (i : Nat)), some (.int (4 - ((d + 1 : Nat) : Int))), some (.bl mb), some (.str x), none, none, none, none, none, none, none, none, none] ∧ G2 = G ∧ x = ("check" : Str) ∧ 0 < d + 1, ?_, ?_⟩
      · refine ⟨_, rfl, rfl, _, rfl, ?_⟩
        rw [vstr_eq]
        by_cases c4 : x = ("check" : Str)
        · rw [decide_eq_true c4, Bool.not_true]
          refine iteF ⟨_, rfl, rfl, _, rfl, ?_⟩
          rw [show decide (V.int (4 - ((d + 1 : Nat) : Int)) = V.int 4) = false from decide_eq_false fun e => by have := V.int.inj e; omega]
          exact iteF ⟨rfl, rfl, c4, by omega⟩
        · rw [decide_eq_false c4, Bool.not_false]
          refine iteT (iteT ⟨_, rfl, mkTwoV rfl fun dd H' s _ e => qn i ?_ dd H' s e⟩)
          unfold parse
          rw [hx, if_neg c1, if_neg c3, if_neg c4]
      rintro σ' G2 ⟨rfl, rfl, c4, c5⟩
      have ep : parse ws (d + 1) i mb = (match fw ((ws.drop i).take 5) F5 0 with
          | some n => .inl (i + n)
          | none =>
            match parse ws d (i + 5) true with
            | .inl n => .inl n
            | .inr (p, b) =>
              match parse ws d b (decide (p ≠ .none)) with
              | .inl n => .inl n
              | .inr (f, e) => .inr (.ask (ws.getD (i + 1) "") ((numOf (ws.getD (i + 2) "") : Nat) : Int) (ws.getD (i + 4) "") p f, e)) := by
        conv => lhs; unfold parse
        rw [hx, if_neg c1, if_neg c3, if_pos c4]
        all_goals rfl
      rw [ep] at qy qn
      refine ⟨_, rfl, _, rfl, _, rfl, _, rfl, aK, _, rfl, .inr (hK _), _, _, rfl, rfl, _, rfl, a, _, rfl, SqL.of ha, fun t ht => ?_⟩
      have ec : cutV (ws.map V.str) (some ((i : Nat) : Int)) (some (((i : Nat) : Int) + (((F5.map V.str).length : Nat) : Int))) = ((ws.drop i).take 5).map V.str := by
        rw [cut_mid _ _ _ (by rw [eL]; exact hi), List.map_take, List.map_drop]
        rfl
      rw [ec]
      have s1 := same_upd0 (o := .lst (((ws.drop i).take 5).map V.str)) ht
      have h1 := upd_same (H := G2) (a := t) (o := .lst (((ws.drop i).take 5).map V.str))
      generalize upd G2 t (.lst (((ws.drop i).take 5).map V.str)) = H1 at s1 h1 ⊢
      have hzk : ∀ z ∈ (ws.drop i).take 5, z.length ≤ 2000 := fun z h => hz z (List.mem_of_mem_drop (List.mem_of_mem_take h))
      refine ⟨_, rfl, t, aK, _, F5, rfl, SqL.of h1, hK _, (fun H' s => SqL.of (s _ _ h1)), (fun _ _ => hK _), hzk, fun H2 s2 => ?_⟩
      refine ⟨_, rfl, rfl, _, rfl, ?_⟩
      have gi : ∀ j, j < 5 → ws[i + j]? = ((ws.drop i).take 5)[j]? := fun j hj => by
        rw [List.getElem?_take_of_lt hj, List.getElem?_drop]
      revert h1 hzk gi
      generalize (ws.drop i).take 5 = ks at qy qn ⊢
      intro h1 hzk gi
      cases hw : fw ks F5 0 with
      | some n =>
        rw [show (!decide (optV (some n) = V.non)) = true from rfl]
        refine iteT ⟨_, rfl, _, rfl, _, _, rfl, rfl, mkTwoV rfl fun dd H' s _ e => qn (i + n) (by rw [hw]) dd H' ((s1.trans s2).trans s) ?_⟩
        rw [show (((i + n : Nat) : Nat) : Int) = ((i : Nat) : Int) + ((n : Nat) : Int) by omega]
        exact e
      | none =>
        rw [show (!decide (optV none = V.non)) = false from rfl]
        simp only [hw] at qy qn
        refine iteF ⟨_, rfl, 0, t, aK, ks, F5, rfl, s2 _ _ h1, hK _, fun _ _ => hK _, hzk, by decide, fun _ H3 l s3 nl hl => ?_, fun n hn => by rw [hw] at hn; cases hn⟩
        obtain ⟨hlen, hall⟩ := fw_none hw
        obtain ⟨w0, w1, w2, w3, w4, ews⟩ : ∃ w0 w1 w2 w3 w4, ks = [w0, w1, w2, w3, w4] := by
          match ks, hlen with
          | [w0, w1, w2, w3, w4], _ => exact ⟨w0, w1, w2, w3, w4, rfl⟩
        subst ews
        rw [vals5] at hl
        have g1 : isName w1 = true := hall 1 w1 "name" rfl rfl
        have g2 : isNum w2 = true := hall 2 w2 "moment" rfl rfl
        have g4 : isName w4 = true := hall 4 w4 "name" rfl rfl
        rw [getD_eq (gi 1 (by decide)), getD_eq (gi 2 (by decide)), getD_eq (gi 4 (by decide))] at qy
        have s13 := (s1.trans s2).trans s3
        have ha3 := s13 _ _ ha
        refine ⟨l, _, rfl, SqL.of hl, rfl, _, _, rfl, _, _, rfl, _, _, rfl, _, _, rfl, _, _, rfl, rfl, ?_⟩
        have e1 : ((i : Nat) : Int) + (((F5.map V.str).length : Nat) : Int) = (((i + 5 : Nat) : Nat) : Int) := by
          show ((i : Nat) : Int) + 5 = _
          omega
        have e2 : 4 - ((d + 1 : Nat) : Int) + 1 = 4 - (d : Int) := by omega
        have hi5 : i + 5 ≤ ws.length := by
          have := gi 4 (by decide)
          obtain ⟨hlt, _⟩ := List.getElem?_eq_some_iff.mp this
          omega
        refine ⟨_, rfl, _, rfl, aK, _, rfl, .inr (hK _), _, _, rfl, rfl, _, rfl, _, _, rfl, rfl, a, ws, i + 5, true, by show [V.ref a, V.int (((i : Nat) : Int) + (((F5.map V.str).length : Nat) : Int)), V.int (4 - ((d + 1 : Nat) : Int) + 1), V.bl true] = _; rw [e1, e2], by omega, ha3, hz, hwl, hi5, fun p b h1p H4 tp vp s4 ht4 hp4 => ?_, fun n hn dd H' s e => qn n (by rw [hn]) dd H' (s13.trans s) e⟩
        simp only [h1p] at qy qn
        have ha4 := s4 _ _ ha3
        refine ⟨tp, _, rfl, SqT.of ht4, rfl, _, _, rfl, _, _, rfl, rfl, ?_⟩
        have en : (!decide (vp = V.non)) = decide (p ≠ Pl.none) := by
          rcases hp4.ty T (K := K) with ⟨e1, e2⟩ | ⟨e1, e2, _⟩
          · rw [decide_eq_true e2, decide_eq_false (fun h => h e1)]
            rfl
          · rw [decide_eq_false e2, decide_eq_true e1]
            rfl
        refine ⟨_, rfl, _, rfl, _, rfl, _, _, rfl, rfl, _, rfl, rfl, a, ws, b, decide (p ≠ Pl.none), by show [V.ref a, V.int ((b : Nat) : Int), V.int (4 - ((d + 1 : Nat) : Int) + 1), V.bl (!decide (vp = V.non))] = _; rw [e2, en], by omega, ha4, hz, hwl, parse_lt h1p, fun f e h2f H5 tf vf s5 ht5 hf5 => ?_, fun n hn dd H' s e => qn n (by rw [hn]) dd H' ((s13.trans s4).trans s) e⟩
        simp only [h2f] at qy
        refine ⟨tf, _, rfl, SqT.of ht5, rfl, _, _, rfl, _, _, rfl, rfl, ?_⟩
        have hm : 0 ≤ ((numOf w2 : Nat) : Int) ∧ ((numOf w2 : Nat) : Int) ≤ 1000000000000000000000000000000 := ⟨by omega, (isNum_le g2).2.2.2⟩
        refine ⟨rfl, _, rfl, _, rfl, _, rfl, fun x dx x1 x2 x3 => made1 x1 x2 x3 (.str w1 (hzk _ (by simp))) (.int _) (.str w4 (hzk _ (by simp))) (Ways.ok g1 hm g4 fun H6 s6 e6 => ?_)⟩
        refine ⟨_, rfl, _, rfl, x, w1, w4, _, vp, vf, p, f, rfl, ⟨dx, e6⟩, (hp4.same s5).same s6, hf5.same s6, fun hn => of_decide_eq_true ((parse_of _ _ _ _ _ _ h2f).2.2.1 hn.2) hn.1, fun H7 v s7 hv => ?_⟩
        refine ⟨_, rfl, by show 2 ≤ sizeLine; decide, fun r hr => ?_⟩
        exact qy _ e rfl _ r v (((((s13.trans s4).trans s5).trans s6).trans s7).trans (same_upd0 hr)) upd_same (hv.same (same_upd0 hr))
end
end K81

namespace K81
open PySem PySem.Spec PyProof.Rows L2 So
abbrev sPRead : Stmt := inClass (topS 54) 5
theorem scPRead : FnScope ["cls", "text", "lines", "found", "at"] ["cls", "text"] (defScope sPRead) := ⟨rfl, rfl, rfl, by decide +kernel, rfl, by decide +kernel, by decide +kernel⟩
/-- what a text of these lines tells: an error's line and word, or a plan -/
def dueOf (p0 : Str) (ps : List Str) : (Nat × Nat) ⊕ Pl :=
  match parse (Txt.split p0 " ") 4 0 false with
  | .inl n => .inl (0, n)
  | .inr (pl, e) => if e < (Txt.split p0 " ").length then .inl (0, e) else if ps = [] then .inr pl else .inl (1, 0)
theorem due_err {p0 : Str} {ps : List Str} {n : Nat} (h : parse (Txt.split p0 " ") 4 0 false = .inl n) : dueOf p0 ps = .inl (0, n) := by
  unfold dueOf
  rw [h]
theorem due_more {p0 : Str} {ps : List Str} {e : Nat} {pl : Pl} (h : parse (Txt.split p0 " ") 4 0 false = .inr (pl, e)) (c : e < (Txt.split p0 " ").length) : dueOf p0 ps = .inl (0, e) := by
  unfold dueOf
  rw [h]
  exact if_pos c
theorem due_lines {p0 : Str} {ps : List Str} {e : Nat} {pl : Pl} (h : parse (Txt.split p0 " ") 4 0 false = .inr (pl, e)) (c : ¬ e < (Txt.split p0 " ").length) (c2 : ps ≠ []) : dueOf p0 ps = .inl (1, 0) := by
  unfold dueOf
  rw [h]
  exact (if_neg c).trans (if_neg c2)
theorem due_ok {p0 : Str} {ps : List Str} {e : Nat} {pl : Pl} (h : parse (Txt.split p0 " ") 4 0 false = .inr (pl, e)) (c : ¬ e < (Txt.split p0 " ").length) (c2 : ps = []) : dueOf p0 ps = .inr pl := by
  unfold dueOf
  rw [h]
  exact (if_neg c).trans (if_pos c2)
section
variable {P : Program} {w : World} {K : PySem.W.Frag} {mg : Str → Option Value} {base : Heap}
def spPRead (K : PySem.W.Frag) (CE C CB : Addr) : Sp := fun vs H Q E => ∃ v, vs = [.ref C, v] ∧ ((∃ (z p0 : Str) (ps : List Str), v = .str z ∧ z.length ≤ 2000 ∧ Txt.split z "\n" = p0 :: ps ∧
    (∀ pl, dueOf p0 ps = .inr pl → ∀ (H' : Hp) (v : V), Same H H' → PlAt CE C H' v pl → Q v H') ∧
    (∀ i n : Nat, dueOf p0 ps = .inl (i, n) → ∀ d H', Same H H' → H' d = some (.xd [("word", .int (n : Nat)), ("line", .int (i : Nat))]) → E (.ref CB) (some d) H')) ∨
  (∃ t, TyX K H v t ∧ PySem.W.kitOne K t (.type "str") = some false ∧ ∀ d H', Same H H' → H' d = some (.xd [("word", .int 0), ("line", .int 0)]) → E (.ref CB) (some d) H'))
theorem ok_pread {C CE CB f fB fL fA fP : Addr} {fd fdB fdL fdA fdP : FuncData} (F : Fun K "read" "Plan.read" sPRead f fd) (W : Words K mg)
    (O : TwoE K mg "BadText" "line" "word" CB fB fdB) (GB : FnOk P w K mg base CX0 1 fB fdB ["self", "line", "word"] (spTwoE CB "line" "word"))
    (FL : Fun K "lines_of" "lines_of" sLines fL fdL) (bL : Binds K fdL ["text"] []) (gL : mg "lines_of" = some (.ref fL)) (GL : FnOk P w K mg base (L2.CX P w) 3 fL fdL ["text"] (spLines K CB))
    (FA : Fun K "check_alone" "check_alone" sAlone fA fdA) (bA : Binds K fdA ["lines"] []) (gA : mg "check_alone" = some (.ref fA)) (GA : FnOk P w K mg base (L2.CX P w) 3 fA fdA ["lines"] (spAlone K CB))
    (FP : Fun K "plan_from" "plan_from" sFrom fP fdP) (gP : mg "plan_from" = some (.ref fP)) (bP : Binds K fdP ["words", "at", "checks", "may_be_none"] []) (GP : FnOk P w K mg base (L2.CX P w) 10 fP fdP ["words", "at", "checks", "may_be_none"] (spFrom CE C CB 4)) :
    FnOk P w K mg base (L2.CX P w) 11 f fd ["cls", "text"] (spPRead K CE C CB) := by
  refine F.okX scPRead (fun vs H Q E h => ?_) (fun cdv A outer s H vs Q E hr h => ?_)
  · obtain ⟨v, rfl, h⟩ := h
    rfl
  · obtain ⟨v, rfl, h⟩ := h
    have hr3 : Room 3 _ := hr.mono (by decide)
    have hr2 : Room 2 _ := hr.mono (by decide)
    refine ⟨_, pss_cons (ps_set (i := 2) scPRead.nd rfl (.inl rfl) (pe_call GL hr3 (by rfl) gL FL.kp bL .nil (passes_call (takes_of rfl rfl rfl rfl) (fun _ _ _ _ h => h)) (pa_cons (pv 1) pa_nil)))
      (pss_cons (ps_asg (pe_call GP hr (by rfl) gP FP.kp bP .nil (passes_call (takes_of rfl rfl rfl rfl) (fun _ _ _ _ h => h)) (pa_cons (pe_ix ix_list (pv 2) pe_int (fun _ _ => rfl)) (pa_cons pe_int (pa_cons pe_int (pa_cons pe_bl pa_nil)))))
        (pg_tup rfl (pgs_cons (pg_name (i := 3) scPRead.nd rfl (Or.inl rfl)) (pgs_cons (pg_name (i := 4) scPRead.nd rfl (Or.inl rfl)) pgs_nil))))
      (pss_cons (ps_if (pt_cmpR op_lt (pv 4) (pe_callB call_len_seq (by rfl) W.len PySem.boot_len (pa_cons (pe_ix ix_list (pv 2) pe_int (fun _ _ => rfl)) pa_nil)) (nomark _)) (pss_one (ps_raiseTwo O GB rfl hr2 (takes_of rfl rfl rfl rfl) (by rfl) (pa_cons pe_int (pa_cons (pv 4) pa_nil)))) pss_nil)
      (pss_cons (ps_expr (pe_call GA hr3 (by rfl) gA FA.kp bA .nil (passes_call (takes_of rfl rfl rfl rfl) (fun _ _ _ _ h => h)) (pa_cons (pv 2) pa_nil)))
      (pss_one (ps_ret (pv 3)))))), ?_⟩
    rcases h with ⟨z, p0, ps, rfl, hz, hsp, qy, qn⟩ | ⟨t, ty, hk, q⟩
    · have hp0 : p0.length ≤ 2000 := Nat.le_trans (part_short (by rw [hsp]; exact List.mem_cons_self : p0 ∈ Txt.split z "\n")) hz
      refine ⟨_, rfl, _, rfl, .inl ⟨z, rfl, hz, fun H1 a q0 qs p0' ps' hsp' s1 ha hl hq => ?_⟩⟩
      rw [hsp] at hsp'
      obtain ⟨rfl, rfl⟩ : p0 = p0' ∧ ps = ps' := by
        simp only [List.cons.injEq] at hsp'
        exact hsp'
      have hz2 : ∀ x ∈ Txt.split p0 " ", x.length ≤ 2000 := fun x hx => Nat.le_trans (part_short hx) hp0
      have hwl : (Txt.split p0 " ").length ≤ 3000 := Nat.le_trans (split_le p0 " ") (by omega)
      refine ⟨_, rfl, a, _, _, _, rfl, rfl, SqL.of ha, atI_nat (j := 0) rfl, q0, Txt.split p0 " ", 0, false, rfl, by decide, hq, hz2, hwl, Nat.zero_le _, fun pl e hp H3 t v s3 ht hv => ?_, fun n hn d H' s e => qn 0 n (due_err hn) d H' (s1.trans s) e⟩
      have ha3 := s3 _ _ ha
      have hq3 := s3 _ _ hq
      have eL : ((Txt.split p0 " ").map V.str).length = (Txt.split p0 " ").length := List.length_map _
      refine ⟨t, _, rfl, SqT.of ht, rfl, _, _, rfl, _, _, rfl, rfl, ?_⟩
      refine ⟨_, rfl, _, rfl, a, _, _, _, rfl, rfl, SqL.of ha3, atI_nat (j := 0) rfl, q0, _, rfl, .inl (SqL.of hq3), _, _, rfl, rfl, _, rfl, ite2 (fun c => ?_) (fun c => ?_)⟩
      · have c' : ((e : Nat) : Int) < (((((Txt.split p0 " ").map V.str).length : Nat)) : Int) := of_decide_eq_true c
        exact ⟨_, rfl, mkTwoV rfl fun d H' s _ e' => qn 0 e (due_more hp (by omega)) d H' ((s1.trans s3).trans s) e'⟩
      · have c' : ¬ ((e : Nat) : Int) < (((((Txt.split p0 " ").map V.str).length : Nat)) : Int) := fun h => c (decide_eq_true h)
        have c2 : ¬ e < (Txt.split p0 " ").length := by omega
        refine ⟨_, rfl, a, _, rfl, SqL.of ha3, fun hle => ?_, fun hlt d H' s e' => ?_⟩
        · have eps : ps = [] := by
            rw [List.length_map, List.length_cons, hl] at hle
            cases ps with
            | nil => rfl
            | cons a b => simp at hle
          exact ⟨_, rfl, qy pl (due_ok hp c2 eps) H3 v (s1.trans s3) hv⟩
        · refine qn 1 0 (due_lines hp c2 fun eps => ?_) d H' ((s1.trans s3).trans s) e'
          rw [List.length_map, List.length_cons, hl, eps] at hlt
          simp at hlt
    · exact ⟨_, rfl, _, rfl, .inr ⟨t, ty, hk, q⟩⟩
end
end K81

namespace So
open PySem PySem.Spec PyProof.Rows L2
section
variable {X : Cx} {CX : CXT} {k : Nat} {C p g : Addr} {mc : Value} {fd : FuncData} {ps : List Str} {sp : Sp} {E : L2.St → XK} {o e : Expr} {es : List Expr} {m : Str} {pos apos : Pos} {ta : TE} {t : TA} {pl : Sem Bool}
/-- C.m(e, ..), m a classmethod, in a try's body -/
theorem pe_cmethS (he : PE X o ta) (r : ClX.CRead X.K C mc) (c : ClX.CMet X.K C mc m p g) (F : FnOk X.prog X.w X.K X.mg X.base CX k g fd ps sp) (hb : Binds X.K fd ps []) (hr : Room k X.A) (hx : ∀ σ, PassesAt CX X σ (E σ)) (ha : PA X (e :: es) t)
    (hst : starEach (e :: es) X.env = (false, eval e X.env) :: starEach es X.env := by rfl) (hpl : (backTo pos (starEach es X.env)).any (·.1) = false := by rfl)
    (ht : eval (.Call (.Attribute o m apos) (e :: es) [] pos) X.env = (do
      let ov ← eval o X.env
      standAt apos.atName
      let (f, first) ← holding [ov] (getMethod ov m pl)
      callWith pos f first (backTo pos (starEach (e :: es) X.env)) (backToKw pos (keywordEach [] X.env))) := by rfl) :
    PE X (.Call (.Attribute o m apos) (e :: es) [] pos) (fun σ H Q => ta σ H fun x H1 => x = .ref C ∧ t σ H1 fun vs H2 => sp (.ref C :: vs) H2 Q (E σ)) := by
  refine ⟨fun pins s σ H Q I h => ?_⟩
  refine PySem.W.methodCall_KW (pl := pl) (thn (he.run pins s σ H _ I h) fun u s1 ⟨x, H1, I1, rx, ex, q⟩ => ?_) ht
  subst ex
  obtain rfl : u = Value.ref C := rx
  refine ClX.getmethcm_ok I1 r c fun s2 I2 => ?_
  refine ClX.callwith_cm I2 (ClX.base_none I1 (Nat.le_refl _)) c.fi (thn (ha.run pos _ s2 σ H1 _ I2 q) fun us s3 ⟨vs, H2, I3, rv, q2⟩ => ⟨⟨ClX.pin_at I3, I3.kIn⟩, ?_⟩) hst hpl
  have z : wpAny (model X.prog X.w) X.A (call (.ref s1.heap.objs.size) us) (EP X ((s1.heap.objs.size, PySem.W.methodObj (.ref g) (.ref C)) :: pins) σ Q) X.xe s3 := by
    refine wpAny_call (PySem.W.method_call (ClX.pin_at I3) ?_)
    have hl : (Value.ref C :: us).length = ps.length := by rw [← F.len _ _ _ _ q2, List.length_cons, List.length_cons, rv.length]
    have b := hb s3 (.ref C :: us) I3.kIn (by rw [List.append_nil]; exact hl)
    rw [List.append_nil] at b
    refine codeAny_mono (F.run X.A X.stack s3 H2 ⟨.ref C :: us, []⟩ (.ref C :: us) (.ref C :: vs) Q (E σ) hr I3.env0 b (.cons rfl rv) q2) fun r s' hq => ?_
    cases r with
    | error e => exact hx σ _ H2 s3 e s' I3 hq
    | ok fl =>
      cases fl with
      | ret u => exact I3.after hq
      | next => exact False.elim hq
      | brk => exact False.elim hq
      | cont => exact False.elim hq
  exact thn z fun _ _ y => ClX.unpinE y
end
end So

namespace So
open PySem PySem.Spec PyProof.Rows L2
section
variable {P : Program} {w : World} {K : PySem.W.Frag} {mg : Str → Option Value} {base : Heap} {CX : CXT} {sp : Sp} {fd : FuncData} {ps N : List Str} {k : Nat} {f c : Addr}
/-- a def by its body, the guards and the code object told -/
theorem fnG_ofC {x qual : Str} {st : Stmt} (F : Fun K x qual st f fd) (hcode : fd.code = .ref c) (S : FnScope N ps (defScope st)) (len : ∀ vs H Q E, sp vs H Q E → vs.length = ps.length)
    (hbody : ∀ (A : Around) (outer : List Env) (s : Shared) (H : Hp) (vs : List V) (Q : VK) (E : XK), A.guards = some [] → Room k (A.deeper (envOfC qual (defScope st) s.heap.objs.size f (.ref c))) → sp vs H Q E →
      ∃ t, PSs (cxOf CX P w K mg base N qual (defScope st) f (.ref c) A outer s H E).nox (defBody st) t ∧ t { nx := fun _ H' => Q .non H', rt := Q } (start N vs) H) : FnG P w K mg base CX (k + 1) f fd ps sp := by
  obtain ⟨oc, od, kV, doc, pm, an, cdv, ct, osl, rfl, lk, hcd⟩ := F.ex
  obtain rfl : cdv = .ref c := hcode
  constructor
  · exact len
  intro A outer s H args us vs Q E hg hr e0 hb r hsp
  have old : ∀ b o, base.get? b = some o → s.heap.get? b = some o := fun b o e => (e0.bs b o e).1
  have KX := e0.mod.kin.keeps old
  have lim := e0.mod.nolimit.keeps old
  refine codeAny_call_function hr.depth (KX _ _ lk) rfl S.co S.gen rfl (PySem.W.codeRec_of KX hcd) (hb _ _ _ _ ?_)
  refine wpAny_newFunctionEnv_cells S.kind (fun y hy => ?_) fun env he s1 x => ?_
  · rcases S.par y.1 (List.of_mem_zip (show (y.1, y.2) ∈ ps.zip us from hy)).1 with q | q
    · exact Or.inl q
    · exact Or.inr (And.intro q (PySem.W.cellsFrom_some _ _ _ (Or.inl q)))
  subst he
  refine And.intro (lim.keeps x.toInCall.keep) (codeAny_func ?_)
  obtain ⟨t, ht, hq⟩ := hbody A outer s H vs Q E hg (hr.deeper _) hsp
  refine wpAny_mono (ht.nox.run [] s1 (start N vs) H _ (inv_start S hr.hd e0 (len _ _ _ _ hsp) r x) hq) (fun fl s' hs => ?_) fun _ _ hs => hs
  match fl, hs with
  | .ret u, ⟨v, σ', H', J, rv, q⟩ => exact ⟨v, H', J.os, J.bare, J.base, J.hok, rv, q⟩
  | .next, ⟨σ', H', J, q⟩ => exact ⟨V.non, H', J.os, J.bare, J.base, J.hok, rfl, q⟩
  | .brk, ⟨_, _, _, q⟩ => exact q.elim
  | .cont, ⟨_, _, _, q⟩ => exact q.elim
end
end So

namespace So
open PySem PySem.Spec PyProof.Rows L2 LamX
/-- the law's call, its one table of code objects and the guards told -/
theorem law_callTG {P : Program} {w : World} {K : PySem.W.Frag} {mg mb : Str → Option Value} {CX : CXT} {k : Nat} {fa a c T : Addr} {fd : FuncData} {x : Str} {sp : Sp} {s₁ : Shared} {vs : List Value} {ns : List Int}
    (KX : K.In s₁.heap) (hns : s₁.heap.Ns mainGlobals mg) (hb : s₁.heap.Ns builtinsNs mb) (hbb : ∀ x : Str, x ≠ "__name__" → mb x = bootBuiltins x) (hlim : s₁.heap.NoLimit) (hg : s₁.gens = #[])
    (tab : s₁.heap.get? T = some { cls := .none, data := .fields #[] }) (noT : K.lookup T = none) (cd : PySem.W.CodeHd s₁.heap c T)
    (mod : ∃ (bm : Addr) (ob : Obj), mg "__builtins__" = some (.ref bm) ∧ bm ≠ builtinsNs ∧ s₁.heap.get? bm = some ob ∧ ob.cls = .type "module" ∧ ob.dict = some builtinsNs ∧ ob.data = .plain)
    (ha : s₁.heap.get? a = some { cls := .type "list", data := .seq vs.toArray }) (hi : IntsAre vs ns) (hl : ns.length ≤ sizeLine) (hr : Room k callerA)
    (F : ∀ base : Heap, K.In base → base.Ns mainGlobals mg → TabB base mg c T → FnG P w K mg base CX k fa fd [x] sp) (hbind : ∀ (s : Shared) (u : Value), BindsTo s fd ⟨[u], []⟩ [(x, u)])
    (hsp : ∀ H : Hp, H T = some (.tbl #[]) → SqL K H a (ns.map V.int) → sp [.ref a] H (fun v _ => v = .bl true) fun _ _ _ => False)
    (hCX : ∀ H e s', CX [] H s₁ (fun _ _ _ => False) e s' → False) :
    codeAny (model P w) callerA (.call (.ref fa) ⟨[.ref a], []⟩) (fun r s' => r = .ok (.ret (.bool true)) ∧ OldK s₁.heap s'.heap ∧ s'.os = s₁.os ∧ AllBare s'.gens) s₁ := by
  have aT : a ≠ T := fun z => by
    rw [z, tab] at ha
    have := congrArg Obj.data (Option.some.inj ha)
    cases this
  -- what may be tracked at the start: the table, and the script where the written part does not hold it
  have go : ∀ H : Hp, H T = some (.tbl #[]) → (∀ b u, H b = some u → b = T ∨ (b = a ∧ K.lookup a = none ∧ ∃ o xs, u = .frz o (.lst xs))) → SqL K H a (ns.map V.int) → HOk P w H s₁.heap →
      codeAny (model P w) callerA (.call (.ref fa) ⟨[.ref a], []⟩) (fun r s' => r = .ok (.ret (.bool true)) ∧ OldK s₁.heap s'.heap ∧ s'.os = s₁.os ∧ AllBare s'.gens) s₁ := by
    intro H hT hA hS hok
    -- an object that is neither the script's list nor the table stands in the base
    have free : ∀ {b : Addr} {o : Obj}, s₁.heap.get? b = some o → (∀ vs n, o.data ≠ .seq vs n) → o.data ≠ .fields #[] → H b = none := by
      intro b o e h1 h2
      cases q : H b with
      | none => rfl
      | some u =>
        rcases hA b u q with rfl | ⟨rfl, _⟩
        · rw [tab] at e
          cases e
          exact absurd rfl h2
        · rw [ha] at e
          cases e
          exact absurd rfl (h1 _ _)
    have toBase : ∀ {b : Addr} {o : Obj}, s₁.heap.get? b = some o → H b = none → (hidT s₁.heap H).get? b = some o := fun e n => hidT_get e n
    have nsB : ∀ {b : Addr} {m : Str → Option Value}, s₁.heap.Ns b m → (hidT s₁.heap H).Ns b m := by
      rintro b m ⟨o, es, ep, e, d, r⟩
      have n : H b = none := by
        refine free e ?_ ?_
        · intro vs n z
          rw [d] at z
          cases z
        · intro z
          rw [d] at z
          cases z
      exact ⟨o, es, ep, toBase e n, d, r⟩
    have kin : K.In (hidT s₁.heap H) := by
      intro b o e
      refine toBase (KX b o e) ?_
      cases q : H b with
      | none => rfl
      | some u =>
        rcases hA b u q with rfl | ⟨rfl, z, _⟩
        · rw [noT] at e
          cases e
        · rw [z] at e
          cases e
    have lim2 : (hidT s₁.heap H).NoLimit := by
      obtain ⟨mc, h1, h2⟩ := hlim
      exact ⟨mc, nsB h1, h2⟩
    have gT : mainGlobals ≠ T := fun z => by
      obtain ⟨o, es, ep, e, d, _⟩ := hns
      rw [z, tab] at e
      cases e
      cases d
    have cd2 : PySem.W.CodeHd (hidT s₁.heap H) c T := by
      obtain ⟨o, us, fl, tf, fg, tg, inF, tx, tt, e1, r1, r2, r3, r⟩ := cd
      refine ⟨o, us, fl, tf, fg, tg, inF, tx, tt, toBase e1 (free e1 ?_ ?_), r1, r2, r3, r⟩
      · intro vs n z
        rw [r2] at z
        cases z
      · intro z
        rw [r2] at z
        cases z
        simp at r3
    have bm2 : (hidT s₁.heap H).BuiltinsAt mg T := by
      obtain ⟨bm, ob, b1, b2, b3, b4, b5, b6⟩ := mod
      have n1 : bm ≠ mainGlobals := fun z => by
        obtain ⟨o, es, ep, e, d, _⟩ := hns
        rw [z, e] at b3
        cases b3
        rw [d] at b6
        cases b6
      have n2 : bm ≠ T := fun z => by
        rw [z, tab] at b3
        cases b3
        cases b6
      refine ⟨bm, ob, b1, b2, n1, n2, toBase b3 (free b3 ?_ ?_), b4, b5, b6⟩
      · intro vs n z
        rw [b6] at z
        cases z
      · intro z
        rw [b6] at z
        cases z
    have e0 : Env0 P w K mg (hidT s₁.heap H) callerA [] s₁ H := by
      refine ⟨rfl, ⟨kin, nsB hns, ⟨mb, nsB hb, hbb⟩, lim2⟩, fun b o e => of_hidT e, Nat.le_of_eq (hidT_size _ _), True.intro, ?_, hok, .of_eq hg⟩
      intro b hb
      cases hb
    refine codeAny_mono ((F _ kin (nsB hns) ⟨cd2, bm2, gT⟩).runG callerA [] s₁ H ⟨[.ref a], []⟩ [.ref a] [.ref a] _ _ rfl hr e0 (hbind s₁ (.ref a)) (.cons rfl .nil) (hsp H hT hS)) fun r s' h => ?_
    match r, h with
    | .error e, h => exact (hCX H e s' h).elim
    | .ok .next, h => exact h.elim
    | .ok .brk, h => exact h.elim
    | .ok .cont, h => exact h.elim
    | .ok (.ret u), ⟨v, H', os, bare, un, hok', rv, q⟩ =>
      have q2 : v = .bl true := q
      subst q2
      cases rv
      obtain ⟨more, hm⟩ := un.tbls T #[] hT
      have grown : s'.heap.get? T = some { cls := .none, data := .fields (#[] ++ more) } := hok' T _ hm
      have stay : ∀ b o, b ≠ T → s₁.heap.get? b = some o → s'.heap.get? b = some o := by
        intro b o n e
        cases q : H b with
        | none => exact un.keep b o e q (fun z => nomatch z) (fun z => nomatch z)
        | some u =>
          rcases hA b u q with z | ⟨_, _, ob, xs, rfl⟩
          · exact absurd z n
          · have z1 := (hok b _ q).1
            have z2 := (hok' b _ (un.frzs b ob _ q)).1
            rw [z1] at e
            rw [z2, e]
      refine ⟨rfl, ⟨fun b o e => ?_, fun b o e => ?_⟩, os, bare⟩
      · by_cases n : b = T
        · subst n
          rw [tab] at e
          cases e
          refine .inr (.inl ⟨(cd.tab tab).isCodeTable, rfl, #[], more, rfl, grown⟩)
        · exact .inl (stay b o n e)
      · by_cases n : b = T
        · subst n
          exact ⟨_, grown⟩
        · exact ⟨o, stay b o n e⟩
  have rv := vals_ints hi
  have hlen : (ns.map V.int).length ≤ sizeLine := by rw [List.length_map]; exact hl
  cases hk : K.lookup a with
  | some o =>
    have e := KX a o hk
    rw [ha] at e
    cases e
    refine go (fun b => if b = T then some (.tbl #[]) else none) (if_pos rfl) (fun b u z => ?_) (Or.inr ⟨_, vs.toArray, _, hk, rfl, rfl, rfl, by rw [List.size_toArray, hi.length]; exact hl, by simpa using rv⟩) fun b u z => ?_
    · try dsimp only at z
      by_cases n : b = T
      · exact Or.inl n
      · rw [if_neg n] at z
        cases z
    · try dsimp only at z
      by_cases n : b = T
      · rw [if_pos n] at z
        cases z
        rw [n]
        exact tab
      · rw [if_neg n] at z
        cases z
  | none =>
    refine go (fun b => if b = T then some (.tbl #[]) else if b = a then some (.frz { cls := .type "list", data := .seq vs.toArray } (.lst (ns.map V.int))) else none) (if_pos rfl) (fun b u z => ?_) (Or.inl (Or.inr ⟨_, (if_neg aT).trans (if_pos rfl)⟩)) fun b u z => ?_
    · try dsimp only at z
      by_cases n : b = T
      · exact Or.inl n
      · rw [if_neg n] at z
        by_cases n2 : b = a
        · rw [if_pos n2] at z
          cases z
          exact Or.inr ⟨n2, hk, _, _, rfl⟩
        · rw [if_neg n2] at z
          cases z
    · try dsimp only at z
      by_cases n : b = T
      · rw [if_pos n] at z
        cases z
        rw [n]
        exact tab
      · rw [if_neg n] at z
        by_cases n2 : b = a
        · rw [if_pos n2] at z
          cases z
          rw [n2]
          exact ⟨ha, hlen, vs, _, rv, ha⟩
        · rw [if_neg n2] at z
          cases z
end So

namespace K81
open PySem PySem.Spec PyProof.Rows L2 So TL
abbrev sHeard : Stmt := topS 69
abbrev heardN : List Str := ["_law_page", "error"]
theorem scHeard : FnScope heardN ["_law_page"] (defScope sHeard) := ⟨rfl, rfl, rfl, by decide +kernel, rfl, by decide +kernel, by decide +kernel⟩
/-- what the top says of the errors, to the law's heard -/
structure HrB (K : PySem.W.Frag) (mg : Str → Option Value) (CT CB : Addr) : Prop where
  gT : mg "TillError" = some (.ref CT)
  gB : mg "BadText" = some (.ref CB)
  gV : mg "ValueError" = none
  isi : mg "isinstance" = none
  te : PySem.W.exmOne K (.ref CB) (.ref CT) = some true
  er : Err K CB
  kb : PySem.W.kitOne K (.ref CB) (.ref CB) = some true
  kv : PySem.W.kitOne K (.ref CB) (.type "ValueError") = some true
  fL : PySem.W.findIn K (.ref CB) "line" = some none
  fW : PySem.W.findIn K (.ref CB) "word" = some none
theorem call_isXoK {X : Cx} {K : PySem.W.Frag} (h : X.K = K) : CallR X (.builtin "isinstance") (fun xs H Q => ∃ (a D dd : Addr) (fs : List (Str × V)) (c : V) (u : Value) (b : Bool), xs = [.ref a, c] ∧ H a = some (Xo (.ref D) (some dd) a) ∧ H dd = some (.xd fs) ∧ Err K D ∧ ClsV c u ∧ PySem.W.kitOne K (.ref D) u = some b ∧ Q (.bl b) H) := by
  subst h
  exact call_isXo
theorem lk_line (n m : V) : List.lookup ("line" : Str) [("word", n), ("line", m)] = some m := by
  have e : (("line" : Str) == "word") = false := by decide +kernel
  simp [List.lookup, e]
theorem lk_word (n m : V) : List.lookup ("word" : Str) [("word", n), ("line", m)] = some n := by
  simp [List.lookup]
section
variable {P : Program} {w : World} {K : PySem.W.Frag} {mg : Str → Option Value} {base : Heap}
/-- what is heard of a text: the plan, or the two fields -/
def Hd (Q : VK) (H : Hp) (i n : Int) : Prop := ∀ (H' : Hp) (t : Addr), Same H H' → H' t = some (.tup [.int i, .int n]) → Q (.ref t) H'
def spHeard (K : PySem.W.Frag) (CE C : Addr) : Sp := fun vs H Q _ => ∃ v, vs = [v] ∧ ((∃ (z p0 : Str) (ps : List Str), v = .str z ∧ z.length ≤ 2000 ∧ Txt.split z "\n" = p0 :: ps ∧
    (∀ pl, dueOf p0 ps = .inr pl → ∀ (H' : Hp) (v : V), Same H H' → PlAt CE C H' v pl → Q v H') ∧
    (∀ i n : Nat, dueOf p0 ps = .inl (i, n) → Hd Q H (i : Nat) (n : Nat))) ∨
  (∃ t, TyX K H v t ∧ PySem.W.kitOne K t (.type "str") = some false ∧ Hd Q H 0 0))
theorem ok_heard {CT CB CE C f pR fR : Addr} {mc : Value} {fd fdR : FuncData} (F : Fun K "_law_heard" "_law_heard" sHeard f fd) (R : HrB K mg CT CB) (gC : mg "Plan" = some (.ref C))
    (cr : ClX.CRead K C mc) (cm : ClX.CMet K C mc "read" pR fR) (bR : Binds K fdR ["cls", "text"] []) (GR : FnOk P w K mg base (L2.CX P w) 11 fR fdR ["cls", "text"] (spPRead K CE C CB)) :
    FnOk P w K mg base CX0 12 f fd ["_law_page"] (spHeard K CE C) := by
  refine F.ok scHeard (fun vs H Q E h => ?_) (fun cdv A outer s H vs Q E hr h => ?_)
  · obtain ⟨v, rfl, _⟩ := h
    rfl
  · obtain ⟨v, rfl, h⟩ := h
    refine ⟨_, (pss_cons (ps_try_keep (X := (cxOf CX0 P w K mg base heardN "_law_heard" (defScope sHeard) f cdv A outer s H E).nox) (i := 1) (n := "error") (c := .ref CT)
        (tb := fun W => tRet fun σ H Q => tC (.ref C) σ H fun x H1 => x = .ref C ∧ tCons (tVar 0) tNil σ H1 fun vs H2 => spPRead K CE C CB (.ref C :: vs) H2 Q (WE W σ))
        rfl rfl rfl scHeard.nd rfl rfl ⟨rfl, by decide, .inl R.gT⟩ LamX.takes0 (fun W pn xe tk _ => pss_one (ps_ret (pe_cmethS (pe_glob (v := .ref C) rfl gC rfl) cr cm GR bR hr (fun σ => passAt tk σ) (pa_cons (pv 0) pa_nil)))) (fun a pn => pss_one (ps_if (PW.pt (pw_and (pt_val (pe_callB (call_isXoK (K := K) rfl) (by rfl) R.isi (by decide +kernel) (pa_cons (pv 1) (pa_cons (pe_glob (v := .ref CB) rfl R.gB rfl) pa_nil))))
          (pw_and1 (pt_val (pe_callB (call_isXoK (K := K) rfl) (by rfl) R.isi (by decide +kernel) (pa_cons (pv 1) (pa_cons (pe_bltn (v := .ty "ValueError") (by rfl) R.gV (by decide +kernel) rfl) pa_nil)))))))
          (pss_one (ps_ret (pe_tup (pa_cons (pe_xo R.er R.fL (pv 1)) (pa_cons (pe_xo R.er R.fW (pv 1)) pa_nil))))) pss_nil)))
      (pss_one (ps_ret pe_str))), ?_⟩
    rcases h with ⟨z, p0, ps, rfl, hz, hsp, q1, q2⟩ | ⟨t, ty, hk, q⟩
    · refine ⟨rfl, _, rfl, _, rfl, .inl ⟨z, p0, ps, rfl, hz, hsp, fun pl hd H' v s' hv => q1 pl hd H' v s' hv, fun i n hd d H' s' e3 => ?_⟩⟩
      have q := q2 i n hd
      refine ⟨true, R.te, fun _ a ha => ?_, fun y => nomatch y⟩
      have s0 : Same H' (upd H' a (Xo (.ref CB) (some d) a)) := same_upd0 ha
      have e4 := s0 _ _ e3
      refine ⟨_, rfl, a, CB, d, _, _, _, true, rfl, upd_same, e4, R.er, .own CB, R.kb, _, rfl, iteT ?_⟩
      refine ⟨_, rfl, a, CB, d, _, _, _, true, rfl, upd_same, e4, R.er, .ty "ValueError", R.kv, _, rfl, iteT ?_⟩
      refine ⟨_, rfl, a, d, _, _, rfl, upd_same, e4, lk_line _ _, _, rfl, a, d, _, _, rfl, upd_same, e4, lk_word _ _, by show 2 ≤ sizeLine; decide, fun r hr => ?_⟩
      exact q _ r (s'.trans (s0.trans (same_upd0 hr))) upd_same
    · refine ⟨rfl, _, rfl, _, rfl, .inr ⟨t, ty, hk, fun d H' s' e3 => ?_⟩⟩
      refine ⟨true, R.te, fun _ a ha => ?_, fun y => nomatch y⟩
      have s0 : Same H' (upd H' a (Xo (.ref CB) (some d) a)) := same_upd0 ha
      have e4 := s0 _ _ e3
      refine ⟨_, rfl, a, CB, d, _, _, _, true, rfl, upd_same, e4, R.er, .own CB, R.kb, _, rfl, iteT ?_⟩
      refine ⟨_, rfl, a, CB, d, _, _, _, true, rfl, upd_same, e4, R.er, .ty "ValueError", R.kv, _, rfl, iteT ?_⟩
      refine ⟨_, rfl, a, d, _, _, rfl, upd_same, e4, lk_line _ _, _, rfl, a, d, _, _, rfl, upd_same, e4, lk_word _ _, by show 2 ≤ sizeLine; decide, fun r hr => ?_⟩
      exact q _ r (s'.trans (s0.trans (same_upd0 hr))) upd_same
end
end K81

namespace K81
open PySem PySem.Spec PyProof.Rows L2 So TL
abbrev sTree : Stmt := topS 61
abbrev sPlanned : Stmt := topS 62
abbrev treeN : List Str := ["_law_pen_here", "_law_many", "_law_deep", "_law_left", "_law_right", "_law_way"]
theorem scTree : FnScope treeN ["_law_pen_here", "_law_many", "_law_deep"] (defScope sTree) := ⟨rfl, rfl, rfl, by decide +kernel, rfl, by decide +kernel, by decide +kernel⟩
theorem scPlanned : FnScope ["_law_tree_here", "_law_checks"] ["_law_tree_here", "_law_checks"] (defScope sPlanned) := ⟨rfl, rfl, rfl, by decide +kernel, rfl, by decide +kernel, by decide +kernel⟩
/-! ### trees -/
inductive Tr where
  | none
  | done
  | node (k : Nat) (l r : Tr)
  deriving DecidableEq
def Tr.d : Tr → PyData
  | .none => .none
  | .done => .str "done"
  | .node k l r => .tuple [.int (k : Nat), l.d, r.d]
def Tr.depth : Tr → Nat
  | .none => 0
  | .done => 0
  | .node _ l r => max l.depth r.depth + 1
def Tr.Ok : Tr → Prop
  | .none => True
  | .done => True
  | .node k l r => k < 3 ∧ ¬ (l = .none ∧ r = .none) ∧ l.Ok ∧ r.Ok
theorem tr_lay : ∀ t : Tr, t.d.canLay0 = true
  | .none => rfl
  | .done => by
    show PyData.canLay0 (.str "done") = true
    decide +kernel
  | .node k l r => by
    show (l.d.canLay0 && (r.d.canLay0 && true)) = true
    rw [tr_lay l, tr_lay r]
    rfl
theorem tr_deep : ∀ t : Tr, t.d.depth ≤ 1 + t.depth
  | .none => by decide +kernel
  | .done => by decide +kernel
  | .node k l r => by
    have h1 := tr_deep l
    have h2 := tr_deep r
    show (PyData.tuple [.int (k : Nat), l.d, r.d]).depth ≤ 1 + (max l.depth r.depth + 1)
    have h0 : (PyData.int (k : Nat)).depth ≤ 1 := by simp [PyData.depth]
    simp only [PyData.depth, PyData.depthAll]
    simp only [PyData.depth] at h0
    omega
theorem tr_shaped {t : Tr} (h : t.depth ≤ 10) : SeqAt.shaped t.d = true := by
  unfold SeqAt.shaped
  rw [tr_lay, decide_eq_true (Nat.le_trans (tr_deep t) (by omega))]
  rfl
/-- v stands for the tree -/
def TrAt (H : Hp) : V → Tr → Prop
  | v, .none => v = .non
  | v, .done => v = .str "done"
  | v, .node k l r => ∃ t vl vr, v = .ref t ∧ H t = some (.tup [.int (k : Nat), vl, vr]) ∧ TrAt H vl l ∧ TrAt H vr r
theorem TrAt.keep {H H' : Hp} (s : ∀ a xs, H a = some (.tup xs) → H' a = some (.tup xs)) : ∀ {t : Tr} {v : V}, TrAt H v t → TrAt H' v t
  | .none, _, h => h
  | .done, _, h => h
  | .node _ _ _, _, ⟨a, vl, vr, e, h, hl, hr⟩ => ⟨a, vl, vr, e, s _ _ h, TrAt.keep s hl, TrAt.keep s hr⟩
theorem TrAt.same {H H' : Hp} {t : Tr} {v : V} (h : TrAt H v t) (s : Same H H') : TrAt H' v t := h.keep fun a _ e => s a _ e
theorem TrAt.off {p : Addr} {H H' : Hp} {t : Tr} {v : V} {xs : List V} (h : TrAt H v t) (hp : H p = some (.lst xs)) (s : Off p H H') : TrAt H' v t := h.keep fun a _ e => s a _ (fun z => by rw [z, hp] at e; cases e) e
theorem TrAt.dp {K : PySem.W.Frag} {H : Hp} : ∀ {t : Tr} {v : V}, TrAt H v t → Dp K H v t.d
  | .none, _, h => by
    obtain rfl := h
    exact .non
  | .done, _, h => by
    obtain rfl := h
    exact .str _
  | .node _ _ _, _, ⟨a, vl, vr, e, h, hl, hr⟩ => by
    subst e
    exact .tup (SqT.of h) (.cons (.int _) (.cons (TrAt.dp hl) (.cons (TrAt.dp hr) .nil)))
theorem TrAt.non {H : Hp} {t : Tr} {v : V} (h : TrAt H v t) : decide (v = V.non) = decide (t = .none) := by
  cases t with
  | none =>
    obtain rfl := h
    rfl
  | done =>
    obtain rfl := h
    rfl
  | node k l r =>
    obtain ⟨a, _, _, rfl, _⟩ := h
    rfl
section
variable {P : Program} {w : World} {K : PySem.W.Frag} {mg : Str → Option Value} {base : Heap}
/-- a drawn tree -/
def spTree (d : Nat) : Sp := fun vs H Q _ => ∃ (p l : Addr) (ns : List Int) (n : Nat) (g : Int), vs = [.ref p, .int 3, .int (d : Nat)] ∧ d ≤ 4 ∧ Pen H p l ns n g ∧ n + 3 * 2 ^ d < 900100 ∧
  ∀ (v : V) (t : Tr) (n' : Nat) (g' : Int) (H' : Hp), TrAt H' v t → t ≠ .none → t.Ok → t.depth ≤ d → n' + 3 ≤ n + 3 * 2 ^ d → Off p H H' → Pen H' p l ns n' g' → Q v H'
theorem pow_le {d : Nat} (h : d ≤ 4) : 2 ^ d ≤ 16 := Nat.le_trans (Nat.pow_le_pow_right (by decide) h) (by decide)
theorem ok_tree {f fD : Addr} {fd fdD : FuncData} (F : Fun K "_law_tree" "_law_tree" sTree f fd) (gF : mg "_law_tree" = some (.ref f)) (bF : Binds K fd ["_law_pen_here", "_law_many", "_law_deep"] [])
    (FD : Fun K "_law_draw" "_law_draw" sDraw fD fdD) (bD : Binds K fdD ["_law_pen_here", "_law_many"] []) (gD : mg "_law_draw" = some (.ref fD)) (GD : FnOk P w K mg base CX0 1 fD fdD ["_law_pen_here", "_law_many"] spDraw) :
    ∀ d, FnOk P w K mg base CX0 (2 + d) f fd ["_law_pen_here", "_law_many", "_law_deep"] (spTree d)
  | 0 => by
    refine F.ok scTree (fun vs H Q E h => ?_) (fun cdv A outer s H vs Q E hr h => ?_)
    · obtain ⟨_, _, _, _, _, rfl, _⟩ := h
      rfl
    · obtain ⟨p, l, ns, n, g, rfl, hd, hp, hn, q⟩ := h
      have hr1 : Room 1 _ := hr.mono (by omega)
      refine ⟨_, pss_cons (ps_if (PW.pt (pw_or (pt_cmpR op_eq (pv 2) pe_int (nomark _)) (pw_or1 (pt_cmpR op_eq (pe_call GD hr1 (by rfl) gD FD.kp bD .nil pass0 (pa_cons (pv 0) (pa_cons pe_int pa_nil))) pe_int (nomark _))))) (pss_one (ps_ret pe_str)) pss_nil) pss_dead, ?_⟩
      refine ⟨_, rfl, rfl, _, rfl, ?_⟩
      rw [show decide (V.int ((0 : Nat) : Int) = V.int 0) = true from rfl]
      exact iteT (q (.str "done") .done n g H rfl (fun e => by cases e) trivial (Nat.le_refl _) (by omega) Off.refl hp)
  | d + 1 => by
    have GT := ok_tree F gF bF FD bD gD GD d
    refine F.ok (k := 2 + d) scTree (fun vs H Q E h => ?_) (fun cdv A outer s H vs Q E hr h => ?_)
    · obtain ⟨_, _, _, _, _, rfl, _⟩ := h
      rfl
    · obtain ⟨p, l, ns, n, g, rfl, hd, hp, hn, q⟩ := h
      have hr1 : Room 1 _ := hr.mono (by omega)
      refine ⟨_, pss_cons (ps_if (PW.pt (pw_or (pt_cmpR op_eq (pv 2) pe_int (nomark _)) (pw_or1 (pt_cmpR op_eq (pe_call GD hr1 (by rfl) gD FD.kp bD .nil pass0 (pa_cons (pv 0) (pa_cons pe_int pa_nil))) pe_int (nomark _))))) (pss_one (ps_ret pe_str)) pss_nil)
        (pss_cons (ps_par (i := 3) (j := 4) (by rfl) scTree.nd rfl rfl (by decide) rfl rfl (pa_cons (pe_call GT hr (by rfl) gF F.kp bF .nil pass0 (pa_cons (pv 0) (pa_cons (pv 1) (pa_cons (pe_op op_sub (pv 2) pe_int) pa_nil)))) (pa_cons (pe_call GT hr (by rfl) gF F.kp bF .nil pass0 (pa_cons (pv 0) (pa_cons (pv 1) (pa_cons (pe_op op_sub (pv 2) pe_int) pa_nil)))) pa_nil)) (by rfl))
        (pss_cons (ps_set (i := 5) scTree.nd rfl (.inl rfl) (pe_call GD hr1 (by rfl) gD FD.kp bD .nil pass0 (pa_cons (pv 0) (pa_cons pe_int pa_nil))))
        (pss_one (ps_ret (pe_tup (pa_cons (pe_call GD hr1 (by rfl) gD FD.kp bD .nil pass0 (pa_cons (pv 0) (pa_cons (pv 1) pa_nil))) (pa_cons (pe_ifExp (pt_cmpR op_eq (pv 5) pe_int (nomark _)) pe_non (pv 3)) (pa_cons (pe_ifExp (pt_cmpR op_eq (pv 5) pe_int (nomark _)) pe_non (pv 4)) pa_nil)))))))), ?_⟩
      have h2 := pow_le (d := d) (by omega)
      have e2 : 2 ^ (d + 1) = 2 * 2 ^ d := by rw [Nat.pow_succ]; omega
      have h1 : 1 ≤ 2 ^ d := Nat.one_le_two_pow
      refine ⟨_, rfl, rfl, _, rfl, ?_⟩
      rw [show decide (V.int ((d + 1 : Nat) : Int) = V.int 0) = false from decide_eq_false fun e => by have := V.int.inj e; omega]
      refine iteF ⟨_, rfl, p, l, ns, n, g, _, rfl, hp, by omega, by decide, by decide, fun w0 n1 g1 H1 _ _ hn1 off1 pen1 => ⟨rfl, _, rfl, ite2 (fun c => ?_) (fun c => ?_)⟩⟩
      · exact q (.str "done") .done n1 g1 H1 rfl (fun e => by cases e) trivial (Nat.zero_le _) (by omega) off1 pen1
      have ed : ((d + 1 : Nat) : Int) - 1 = (d : Int) := by omega
      refine ⟨_, rfl, _, rfl, _, rfl, _, _, rfl, rfl, p, l, ns, n1, g1, by show [V.ref p, V.int 3, V.int (((d + 1 : Nat) : Int) - 1)] = _; rw [ed], by omega, pen1, by omega, fun vl tl n2 g2 H2 hl hln hlo hld hn2 off2 pen2 => ?_⟩
      refine ⟨_, rfl, _, rfl, _, rfl, _, _, rfl, rfl, p, l, ns, n2, g2, by show [V.ref p, V.int 3, V.int (((d + 1 : Nat) : Int) - 1)] = _; rw [ed], by omega, pen2, by omega, fun vr tr n3 g3 H3 hr' hrn hro hrd hn3 off3 pen3 => ⟨_, _, rfl, ?_⟩⟩
      have hl3 := hl.off pen2.pen off3
      refine ⟨_, rfl, p, l, ns, n3, g3, _, rfl, pen3, by omega, by decide, by decide, fun wy n4 g4 H4 _ _ hn4 off4 pen4 => ?_⟩
      refine ⟨_, rfl, _, rfl, p, l, ns, n4, g4, _, rfl, pen4, by omega, by decide, by decide, fun k n5 g5 H5 k0 k1 hn5 off5 pen5 => ?_⟩
      have hl5 := (hl3.off pen3.pen off4).off pen4.pen off5
      have hr5 := (hr'.off pen3.pen off4).off pen4.pen off5
      obtain ⟨k, rfl⟩ : ∃ j : Nat, k = j := ⟨k.toNat, by omega⟩
      have offA := (((off1.trans off2).trans off3).trans off4).trans off5
      have fin : ∀ (vl' vr' : V) (tl' tr' : Tr), TrAt H5 vl' tl' → TrAt H5 vr' tr' → ¬ (tl' = .none ∧ tr' = .none) → tl'.Ok → tr'.Ok → tl'.depth ≤ d → tr'.depth ≤ d → ∀ t, H5 t = none → Q (.ref t) (upd H5 t (.tup [.int (k : Nat), vl', vr'])) := fun vl' vr' tl' tr' a1 a2 a3 a4 a5 a6 a7 t ht =>
        q (.ref t) (.node k tl' tr') n5 g5 _ ⟨t, vl', vr', rfl, upd_same, a1.same (same_upd0 ht), a2.same (same_upd0 ht)⟩ (fun e => by cases e) ⟨by omega, a3, a4, a5⟩ (by show max tl'.depth tr'.depth + 1 ≤ d + 1; omega) (by omega) (offA.trans fun b o _ e => same_upd0 ht b o e) (pen_same pen5 (same_upd0 ht))
      refine ⟨_, rfl, rfl, _, rfl, ite2 (fun c0 => ?_) (fun c0 => ?_)⟩
      · refine ⟨_, rfl, rfl, _, rfl, ite2 (fun c1 => ?_) (fun c1 => ?_)⟩
        · have e0 := V.int.inj (of_decide_eq_true c0)
          have e1 := V.int.inj (of_decide_eq_true c1)
          omega
        · exact ⟨_, rfl, by show 3 ≤ sizeLine; decide, fin .non vr .none tr rfl hr5 (fun e => hrn e.2) trivial hro (Nat.zero_le _) hrd⟩
      · refine ⟨_, rfl, _, rfl, rfl, _, rfl, ite2 (fun c1 => ?_) (fun c1 => ?_)⟩
        · exact ⟨by show 3 ≤ sizeLine; decide, fin vl .non tl .none hl5 rfl (fun e => hln e.1) hlo trivial hld (Nat.zero_le _)⟩
        · exact ⟨_, rfl, by show 3 ≤ sizeLine; decide, fin vl vr tl tr hl5 hr5 (fun e => hln e.1) hlo hro hld hrd⟩
/-! ### the plan of a tree -/
/-- the three entries of the law -/
structure Ents where
  z : Nat → Str
  m : Nat → Int
  y : Nat → Str
def Ents.Ok (T : Ents) : Prop := ∀ k, k < 3 → EOk (T.z k) (T.m k) (T.y k)
def Tr.pl (T : Ents) : Tr → Pl
  | .none => .none
  | .done => .done
  | .node k l r => .ask (T.z k) (T.m k) (T.y k) (l.pl T) (r.pl T)
theorem pl_none {T : Ents} {t : Tr} : t.pl T = .none ↔ t = .none := by
  cases t <;> simp [Tr.pl]
theorem pl_ok {T : Ents} (h : T.Ok) : ∀ {t : Tr}, t.Ok → (t.pl T).Ok ∧ (t.pl T).depth = t.depth
  | .none, _ => ⟨trivial, rfl⟩
  | .done, _ => ⟨trivial, rfl⟩
  | .node k l r, ⟨h1, h2, h3, h4⟩ => by
    obtain ⟨a1, a2⟩ := pl_ok h h3
    obtain ⟨b1, b2⟩ := pl_ok h h4
    refine ⟨⟨h k h1, fun e => h2 ⟨pl_none.mp e.1, pl_none.mp e.2⟩, a1, b1⟩, ?_⟩
    show max (l.pl T).depth (r.pl T).depth + 1 = max l.depth r.depth + 1
    rw [a2, b2]
/-- the list of the three entries -/
def EsAt (CE : Addr) (T : Ents) (H : Hp) (a : Addr) : Prop := ∃ e0 e1 e2, H a = some (.lst [.ref e0, .ref e1, .ref e2]) ∧ At CE H e0 (T.z 0) (T.m 0) (T.y 0) ∧ At CE H e1 (T.z 1) (T.m 1) (T.y 1) ∧ At CE H e2 (T.z 2) (T.m 2) (T.y 2)
theorem EsAt.same {CE : Addr} {T : Ents} {H H' : Hp} {a : Addr} (h : EsAt CE T H a) (s : Same H H') : EsAt CE T H' a := by
  obtain ⟨e0, e1, e2, h, h0, h1, h2⟩ := h
  exact ⟨e0, e1, e2, s _ _ h, h0.same s, h1.same s, h2.same s⟩
theorem EsAt.get {CE : Addr} {T : Ents} {H : Hp} {a : Addr} (h : EsAt CE T H a) {k : Nat} (hk : k < 3) : ∃ xs e, H a = some (.lst xs) ∧ xs[k]? = some (.ref e) ∧ At CE H e (T.z k) (T.m k) (T.y k) := by
  obtain ⟨e0, e1, e2, h, h0, h1, h2⟩ := h
  match k, hk with
  | 0, _ => exact ⟨_, e0, h, rfl, h0⟩
  | 1, _ => exact ⟨_, e1, h, rfl, h1⟩
  | 2, _ => exact ⟨_, e2, h, rfl, h2⟩
def spPlanned (CE C : Addr) (T : Ents) (d : Nat) : Sp := fun vs H Q _ => ∃ (v : V) (a : Addr) (t : Tr), vs = [v, .ref a] ∧ EsAt CE T H a ∧ TrAt H v t ∧ t.Ok ∧ t.depth ≤ d ∧ d ≤ 4 ∧ ∀ (H' : Hp) (v : V), Same H H' → PlAt CE C H' v (t.pl T) → Q v H'
theorem shaped_done : SeqAt.shaped (.str ("done" : Str)) = true := by decide +kernel
theorem ok_planned {C CE f fD pD fA pA : Addr} {mc : Value} {fd fdD fdA : FuncData} (T : Ents) (F : Fun K "_law_planned" "_law_planned" sPlanned f fd) (gF : mg "_law_planned" = some (.ref f)) (bF : Binds K fd ["_law_tree_here", "_law_checks"] []) (gC : mg "Plan" = some (.ref C))
    (SD : Sta K C mc "done" pD fD) (bD : Binds K fdD [] []) (GD : FnOk P w K mg base CX0 3 fD fdD [] (spPDone CE C))
    (SA : Sta K C mc "ask" pA fA) (bA : Binds K fdA ["entry", "passed", "failed"] []) (GA : FnOk P w K mg base CX0 3 fA fdA ["entry", "passed", "failed"] (spPAsk CE C)) :
    ∀ d, FnOk P w K mg base CX0 (4 + d) f fd ["_law_tree_here", "_law_checks"] (spPlanned CE C T d)
  | 0 => by
    refine F.ok scPlanned (fun vs H Q E h => ?_) (fun cdv A outer s H vs Q E hr h => ?_)
    · obtain ⟨_, _, _, rfl, _⟩ := h
      rfl
    · obtain ⟨v, a, t, rfl, ha, hv, ho, hd, hd4, q⟩ := h
      have hr3 : Room 3 _ := hr.mono (by omega)
      have hu := hr.units
      refine ⟨_, pss_cons (ps_if (pt_cmpR op_isN (pv 0) pe_non (nomark _)) (pss_one (ps_ret pe_non)) pss_nil)
        (pss_cons (ps_if (pt_cmpR (op_eqD hu) (pv 0) pe_str (nomark _)) (pss_one (ps_ret (pe_sta0 (pe_glob (v := .ref C) rfl gC rfl) SD GD hr3 bD pass0))) pss_nil)
        pss_dead), ?_⟩
      refine ⟨_, rfl, rfl, _, rfl, ?_⟩
      rw [hv.non]
      cases t with
      | none => exact iteT (q H .non (Same.refl H) rfl)
      | done =>
        refine iteF ⟨_, rfl, _, _, hv.dp, .str _, tr_shaped (by show 0 ≤ 10; decide), shaped_done, _, rfl, iteT ?_⟩
        exact ⟨rfl, rfl, q⟩
      | node k l r =>
        unfold Tr.depth at hd
        omega
  | d + 1 => by
    have GP := ok_planned T F gF bF gC SD bD GD SA bA GA d
    refine F.ok (k := 4 + d) scPlanned (fun vs H Q E h => ?_) (fun cdv A outer s H vs Q E hr h => ?_)
    · obtain ⟨_, _, _, rfl, _⟩ := h
      rfl
    · obtain ⟨v, a, t, rfl, ha, hv, ho, hd, hd4, q⟩ := h
      have hr3 : Room 3 _ := hr.mono (by omega)
      have hu := hr.units
      refine ⟨_, pss_cons (ps_if (pt_cmpR op_isN (pv 0) pe_non (nomark _)) (pss_one (ps_ret pe_non)) pss_nil)
        (pss_cons (ps_if (pt_cmpR (op_eqD hu) (pv 0) pe_str (nomark _)) (pss_one (ps_ret (pe_sta0 (pe_glob (v := .ref C) rfl gC rfl) SD GD hr3 bD pass0))) pss_nil)
        (pss_one (ps_ret (pe_sta (pe_glob (v := .ref C) rfl gC rfl) SA GA hr3 bA pass0 (pa_cons (pe_ix ix_list (pv 1) (pe_ix ix_tup (pv 0) pe_int (fun _ _ => rfl)) (fun _ _ => rfl)) (pa_cons (pe_call GP hr (by rfl) gF F.kp bF .nil pass0 (pa_cons (pe_ix ix_tup (pv 0) pe_int (fun _ _ => rfl)) (pa_cons (pv 1) pa_nil))) (pa_cons (pe_call GP hr (by rfl) gF F.kp bF .nil pass0 (pa_cons (pe_ix ix_tup (pv 0) pe_int (fun _ _ => rfl)) (pa_cons (pv 1) pa_nil))) pa_nil))))))), ?_⟩
      refine ⟨_, rfl, rfl, _, rfl, ?_⟩
      rw [hv.non]
      cases t with
      | none => exact iteT (q H .non (Same.refl H) rfl)
      | done =>
        refine iteF ⟨_, rfl, _, _, hv.dp, .str _, tr_shaped (by show 0 ≤ 10; decide), shaped_done, _, rfl, iteT ?_⟩
        exact ⟨rfl, rfl, q⟩
      | node k l r =>
        have hdp := hv.dp (K := K)
        obtain ⟨t, vl, vr, rfl, ht, hl, hr'⟩ := hv
        obtain ⟨hk, hn, hol, hor⟩ := ho
        have hd' : max l.depth r.depth + 1 ≤ d + 1 := hd
        refine iteF ⟨_, rfl, _, _, hdp, .str _, tr_shaped (by show max l.depth r.depth + 1 ≤ 10; omega), shaped_done, _, rfl, iteF ?_⟩
        obtain ⟨xs, e, hx, hxe, he⟩ := ha.get hk
        refine ⟨rfl, _, rfl, _, rfl, t, _, _, _, rfl, rfl, SqT.of ht, atI_nat (j := 0) rfl, a, _, _, _, rfl, rfl, SqL.of hx, atI_nat (j := k) hxe, ?_⟩
        refine ⟨_, rfl, t, _, _, _, rfl, rfl, SqT.of ht, atI_nat (j := 1) rfl, _, rfl, vl, a, l, rfl, ha, hl, hol, by omega, by omega, fun H1 v1 s1 p1 => ?_⟩
        refine ⟨_, rfl, t, _, _, _, rfl, rfl, SqT.of (s1 _ _ ht), atI_nat (j := 2) rfl, _, rfl, vr, a, r, rfl, ha.same s1, hr'.same s1, hor, by omega, by omega, fun H2 v2 s2 p2 => ?_⟩
        refine ⟨e, _, _, _, v1, v2, _, _, rfl, he.same (s1.trans s2), p1.same s2, p2, fun z => hn ⟨pl_none.mp z.1, pl_none.mp z.2⟩, fun H3 v3 s3 p3 => q H3 v3 ((s1.trans s2).trans s3) p3⟩
end
end K81

namespace K81
open PySem PySem.Spec PyProof.Rows L2 So TL
abbrev sFits : Stmt := topS 65
theorem scFits : FnScope ["_law_word", "_law_at"] ["_law_word", "_law_at"] (defScope sFits) := ⟨rfl, rfl, rfl, by decide +kernel, rfl, by decide +kernel, by decide +kernel⟩
def L4 : List Str := ["check", "", "", "by"]
theorem in14 (i : Nat) : inV (.int (i : Int)) [V.int 1, V.int 4] = decide (i = 1 ∨ i = 4) := by
  have : inV (.int (i : Int)) [V.int 1, V.int 4] = (((1 : Int) == (i : Int)) || (((4 : Int) == (i : Int)) || false)) := rfl
  rw [this]
  by_cases h1 : i = 1
  · subst h1; rfl
  · by_cases h4 : i = 4
    · subst h4; rfl
    · rw [decide_eq_false (by omega)]
      have e1 : ((1 : Int) == (i : Int)) = false := by simpa using (by omega : ¬ (1 : Int) = (i : Int))
      have e4 : ((4 : Int) == (i : Int)) = false := by simpa using (by omega : ¬ (4 : Int) = (i : Int))
      rw [e1, e4]
      rfl
theorem pt_cut {X : Cx} {e : Expr} {t : TT} (h : PT X e t) : PT X e (fun σ H Q => ∃ Q0 : Bool → Hp → Prop, t σ H Q0 ∧ ∀ b H', Q0 b H' → Q b H') :=
  ⟨fun pins s σ H Q I ⟨Q0, h1, h2⟩ => thn (h.run pins s σ H Q0 I h1) fun b s' ⟨H', I', q⟩ => ⟨H', I', h2 b H' q⟩⟩
section
variable {P : Program} {w : World} {K : PySem.W.Frag} {mg : Str → Option Value} {base : Heap}
def spFits : Sp := fun vs H Q _ => ∃ (z : Str) (i : Nat), vs = [.str z, .int (i : Nat)] ∧ i < 5 ∧ z.length ≤ 2000 ∧ asc z ∧ ∀ H', Same H H' → Q (.bl (hasForm (F5.getD i "") z)) H'
theorem ok_fits {f fN fU : Addr} {fd fdN fdU : FuncData} (F : Fun K "_law_fits" "_law_fits" sFits f fd)
    (FN : Fun K "_law_is_name" "_law_is_name" sLIsName fN fdN) (bN : Binds K fdN ["_law_word"] []) (gN : mg "_law_is_name" = some (.ref fN)) (GN : FnOk P w K mg base CX0 1 fN fdN ["_law_word"] spLIsName)
    (FU : Fun K "_law_is_moment" "_law_is_moment" sLIsMom fU fdU) (bU : Binds K fdU ["_law_word"] []) (gU : mg "_law_is_moment" = some (.ref fU)) (GU : FnOk P w K mg base CX0 1 fU fdU ["_law_word"] spLIsMom) :
    FnOk P w K mg base CX0 2 f fd ["_law_word", "_law_at"] spFits := by
  refine F.ok scFits (fun vs H Q E h => ?_) (fun cdv A outer s H vs Q E hr h => ?_)
  · obtain ⟨_, _, rfl, _⟩ := h
    rfl
  · obtain ⟨z, i, rfl, hi, hz, hasc, q⟩ := h
    refine ⟨_, pss_cons (ps_if (pt_cmpR op_in_seq (pv 1) (pe_tup (pa_cons pe_int (pa_cons pe_int pa_nil))) (by rfl)) (pss_one (ps_ret (pe_call GN hr (by rfl) gN FN.kp bN .nil pass0 (pa_cons (pv 0) pa_nil)))) pss_nil)
      (pss_one (ps_ret (pe_ifExp (pt_cmpR op_eq (pv 1) pe_int (nomark _)) (pe_call GU hr (by rfl) gU FU.kp bU .nil pass0 (pa_cons (pv 0) pa_nil)) (pe_cmpR op_eq (pv 0) (pe_ix ix_list (pe_lst (pa_cons pe_str (pa_cons pe_str (pa_cons pe_str (pa_cons pe_str pa_nil))))) (pv 1) (fun _ _ => rfl)) (nomark _))))), ?_⟩
    refine ⟨_, rfl, by show 2 ≤ sizeLine; decide, fun t2 ht2 => ⟨t2, _, rfl, .inr (SqT.of upd_same), rfl, rfl, ?_⟩⟩
    rw [show (if false = true then !inV (V.int (i : Int)) [V.int 1, V.int 4] else inV (V.int (i : Int)) [V.int 1, V.int 4]) = decide (i = 1 ∨ i = 4) from in14 i]
    have s1 := same_upd0 (o := .tup [.int 1, .int 4]) ht2
    refine ⟨_, rfl, ite2 (fun c1 => ?_) (fun c1 => ?_)⟩
    · have e : hasForm (F5.getD i "") z = isName z := by
        rcases of_decide_eq_true c1 with h | h <;> subst h <;> rfl
      refine ⟨_, rfl, z, rfl, hz, hasc, fun H' s => ?_⟩
      have := q H' (s1.trans s)
      rw [e] at this
      exact this
    · have c1' : ¬ (i = 1 ∨ i = 4) := fun h => c1 (decide_eq_true h)
      refine ⟨_, rfl, rfl, _, rfl, ite2 (fun c2 => ?_) (fun c2 => ?_)⟩
      · have c2' : i = 2 := by have := V.int.inj (of_decide_eq_true c2); omega
        have e : hasForm (F5.getD i "") z = isNum z := by
          subst c2'
          rfl
        refine ⟨_, rfl, z, rfl, hz, hasc, fun H' s => ?_⟩
        have := q H' (s1.trans s)
        rw [e] at this
        exact this
      · have c2' : ¬ i = 2 := fun e => c2 (decide_eq_true (by rw [e]; rfl))
        have c3 : i = 0 ∨ i = 3 := by omega
        have hLi : (L4.map V.str)[i]? = some (V.str (L4.getD i "")) := by
          rcases c3 with h | h <;> subst h <;> rfl
        have e : hasForm (F5.getD i "") z = decide (z = L4.getD i "") := by
          rcases c3 with h | h <;> subst h
          · exact check_form' z
          · exact by_form' z
        refine ⟨_, rfl, by show 4 ≤ sizeLine; decide, fun t1 ht1 => ⟨_, rfl, t1, L4.map V.str, _, _, rfl, rfl, SqL.of upd_same, atI_nat hLi, rfl, ?_⟩⟩
        have := q _ (s1.trans (same_upd0 (o := .lst (L4.map V.str)) ht1))
        rw [e] at this
        rw [eqStr]
        exact this
end
end K81

namespace K81
open PySem PySem.Spec PyProof.Rows L2 So TL
abbrev sLRead : Stmt := topS 66
abbrev lreadN : List Str := ["_law_words", "_law_at", "_law_deep", "_law_k", "_law_spot", "_law_has_lacked", "_law_branch", "_law_fault"]
theorem scLRead : FnScope lreadN ["_law_words", "_law_at", "_law_deep"] (defScope sLRead) := ⟨rfl, rfl, rfl, by decide +kernel, rfl, by decide +kernel, by decide +kernel⟩
theorem parse_done {ws : List Str} {d a : Nat} {mb : Bool} (h : ws.getD a "" = ("done" : Str)) : parse ws d a mb = .inr (.done, a + 1) := by
  cases d <;> (unfold parse; rw [if_pos h])
theorem parse_zero {ws : List Str} {a : Nat} (h : ¬ ws.getD a "" = ("done" : Str)) : parse ws 0 a false = .inl a := by
  unfold parse
  rw [if_neg h, if_neg (fun e => by cases e.2)]
theorem parse_bad {ws : List Str} {d a : Nat} {n : Nat} (h : ¬ ws.getD a "" = ("done" : Str)) (hw : fw ((ws.drop a).take 5) F5 0 = some n) : parse ws (d + 1) a false = .inl (a + n) := by
  unfold parse
  rw [if_neg h, if_neg (fun e => by cases e.2)]
  by_cases c : ws.getD a "" = ("check" : Str)
  · rw [if_pos c, hw]
  · rw [if_neg c]
    have : n = 0 := by
      cases e : ws.drop a with
      | nil =>
        rw [e] at hw
        exact (Option.some.inj hw).symm
      | cons x r =>
        have hx : ws.getD a "" = x := getD_eq (by have t := List.getElem?_drop (xs := ws) (i := a) (j := 0); rw [e] at t; simpa using t.symm)
        rw [e] at hw
        have hw : fw (x :: r.take 4) F5 0 = some n := hw
        unfold F5 at hw
        rw [fw_cons, check_form', if_neg (by rw [← hx]; exact fun h => c (of_decide_eq_true h))] at hw
        exact (Option.some.inj hw).symm
    rw [this]
    rfl
theorem check_of {ws : List Str} {a : Nat} (hw : fw ((ws.drop a).take 5) F5 0 = none) : ws.getD a "" = ("check" : Str) ∧ a + 5 ≤ ws.length := by
  obtain ⟨hlen, hall⟩ := fw_none hw
  have hlen : ((ws.drop a).take 5).length = 5 := hlen
  have h5 : a + 5 ≤ ws.length := by
    rw [List.length_take, List.length_drop] at hlen
    omega
  refine ⟨?_, h5⟩
  have hlt : a < ws.length := by omega
  have e : ((ws.drop a).take 5)[0]? = some ws[a] := by
    rw [List.getElem?_take_of_lt (by decide), List.getElem?_drop, Nat.add_zero, List.getElem?_eq_getElem hlt]
  have := hall 0 ws[a] "check" e rfl
  rw [check_form'] at this
  rw [getD_eq (List.getElem?_eq_getElem hlt)]
  exact of_decide_eq_true this
theorem parse_step {ws : List Str} {d a : Nat} (h : ¬ ws.getD a "" = ("done" : Str)) (hw : fw ((ws.drop a).take 5) F5 0 = none) :
    (∀ n, parse ws d (a + 5) true = .inl n → parse ws (d + 1) a false = .inl n) ∧
    (∀ p b n, parse ws d (a + 5) true = .inr (p, b) → parse ws d b (decide (p ≠ .none)) = .inl n → parse ws (d + 1) a false = .inl n) ∧
    (∀ p b f e, parse ws d (a + 5) true = .inr (p, b) → parse ws d b (decide (p ≠ .none)) = .inr (f, e) → ∃ pl, parse ws (d + 1) a false = .inr (pl, e)) := by
  have c := (check_of hw).1
  refine ⟨fun n h1 => ?_, fun p b n h1 h2 => ?_, fun p b f e h1 h2 => ⟨.ask (ws.getD (a + 1) "") ((numOf (ws.getD (a + 2) "") : Nat) : Int) (ws.getD (a + 4) "") p f, ?_⟩⟩
  · unfold parse
    rw [if_neg h, if_neg (fun e => by cases e.2), if_pos c, hw]
    simp only [h1]
  · unfold parse
    rw [if_neg h, if_neg (fun e => by cases e.2), if_pos c, hw]
    simp only [h1, h2]
  · unfold parse
    rw [if_neg h, if_neg (fun e => by cases e.2), if_pos c, hw]
    simp only [h1, h2]
section
variable {P : Program} {w : World} {K : PySem.W.Frag} {mg : Str → Option Value} {base : Heap}
/-- the law's reading -/
def spLRead (d : Nat) : Sp := fun vs H Q _ => ∃ (a : Addr) (ws : List Str) (i : Nat), vs = [.ref a, .int (i : Nat), .int (4 - (d : Int))] ∧ d ≤ 4 ∧ H a = some (.lst (ws.map V.str)) ∧ (∀ z ∈ ws, z.length ≤ 2000 ∧ asc z) ∧ i ≤ ws.length ∧
  (∀ (pl : Pl) (e : Nat), parse ws d i false = .inr (pl, e) → ∀ (H' : Hp) (t : Addr), Same H H' → H' t = some (.tup [.int (e : Nat), .non]) → Q (.ref t) H') ∧
  (∀ n : Nat, parse ws d i false = .inl n → ∀ (H' : Hp) (t : Addr), Same H H' → H' t = some (.tup [.non, .int (n : Nat)]) → Q (.ref t) H')
theorem ok_lread {f fT : Addr} {fd fdT : FuncData} (F : Fun K "_law_read" "_law_read" sLRead f fd) (gF : mg "_law_read" = some (.ref f)) (bF : Binds K fd ["_law_words", "_law_at", "_law_deep"] []) (ml : mg "len" = none) (mr : mg "range" = none)
    (FT : Fun K "_law_fits" "_law_fits" sFits fT fdT) (bT : Binds K fdT ["_law_word", "_law_at"] []) (gT : mg "_law_fits" = some (.ref fT)) (GT : FnOk P w K mg base CX0 2 fT fdT ["_law_word", "_law_at"] spFits) :
    ∀ d, FnOk P w K mg base CX0 (3 + d) f fd ["_law_words", "_law_at", "_law_deep"] (spLRead d)
  | 0 => by
    refine F.ok (k := 2) scLRead (fun vs H Q E h => ?_) (fun cdv A outer s H vs Q E hr h => ?_)
    · obtain ⟨_, _, _, rfl, _⟩ := h
      rfl
    · obtain ⟨a, ws, i, rfl, hd, ha, hz, hi, qy, qn⟩ := h
      have hr2 : Room 2 _ := hr.mono (by omega)
      have eL : (ws.map V.str).length = ws.length := List.length_map _
      refine ⟨_, pss_cons (ps_if (pt_cut (PW.pt (pw_and (pt_cmpR op_lt (pv 1) (pe_callB call_len_seq (by rfl) ml PySem.boot_len (pa_cons (pv 0) pa_nil)) (nomark _)) (pw_and1 (pt_cmpR op_eq (pe_ix ix_list (pv 0) (pv 1) (fun _ _ => rfl)) pe_str (nomark _)))))) (pss_one (ps_ret (pe_tup (pa_cons (pe_op op_add (pv 1) pe_int) (pa_cons pe_non pa_nil))))) pss_nil)
      (pss_cons (ps_if (pt_cut (PW.pt (pw_and (pt_cmpR op_lt (pv 1) (pe_callB call_len_seq (by rfl) ml PySem.boot_len (pa_cons (pv 0) pa_nil)) (nomark _)) (pw_and1 (pt_cmpR op_eq (pv 2) pe_int (nomark _)))))) (pss_one (ps_ret (pe_tup (pa_cons pe_non (pa_cons (pv 1) pa_nil))))) pss_nil)
      (pss_cons (ps_for PassesOwn.never rfl (pi_range1 (by rfl) mr (pa_cons pe_int pa_nil)) (pg_name (i := 3) scLRead.nd rfl (Or.inl rfl))
        (pss_one (ps_if (PW.pt (pw_or (pt_cmpR op_eq (pe_op op_add (pv 1) (pv 3)) (pe_callB call_len_seq (by rfl) ml PySem.boot_len (pa_cons (pv 0) pa_nil)) (nomark _)) (pw_or1 (pt_not (pt_val (pe_call GT hr2 (by rfl) gT FT.kp bT .nil pass0 (pa_cons (pe_ix ix_list (pv 0) (pe_op op_add (pv 1) (pv 3)) (fun _ _ => rfl)) (pa_cons (pv 3) pa_nil))))))))
          (pss_one (ps_ret (pe_tup (pa_cons pe_non (pa_cons (pe_op op_add (pv 1) (pv 3)) pa_nil))))) pss_nil)))
      pss_dead)), ?_⟩
      refine ⟨fun b H' => b = decide (ws.getD i "" = ("done" : Str)) ∧ H = H', ?_, ?_⟩
      · refine ⟨_, rfl, _, rfl, a, _, rfl, .inl (SqL.of ha), _, _, rfl, rfl, _, rfl, ite2 (fun c => ?_) (fun c => ?_)⟩
        · have c' : ((i : Nat) : Int) < (((ws.map V.str).length : Nat) : Int) := of_decide_eq_true c
          have hlt : i < ws.length := by omega
          exact ⟨_, rfl, _, rfl, a, _, _, _, rfl, rfl, SqL.of ha, atI_nat (j := i) (by rw [List.getElem?_map, List.getElem?_eq_getElem hlt]; rfl), rfl, _, rfl, by rw [getD_eq (List.getElem?_eq_getElem hlt), vstr_eq], rfl⟩
        · have c' : ¬ ((i : Nat) : Int) < (((ws.map V.str).length : Nat) : Int) := fun e => c (decide_eq_true e)
          refine ⟨?_, rfl⟩
          rw [List.getD_eq_getElem?_getD, List.getElem?_eq_none (by omega)]
          decide +kernel
      rintro _ _ ⟨rfl, rfl⟩
      refine ite2 (fun c => ?_) (fun c => ?_)
      · have c' := of_decide_eq_true c
        exact ⟨_, rfl, _, _, rfl, rfl, by show 2 ≤ sizeLine; decide, fun t ht => qy .done (i + 1) (parse_done c') _ t (same_upd0 ht) upd_same⟩
      have c1 : ¬ ws.getD i "" = ("done" : Str) := fun e => c (decide_eq_true e)
      clear c
      refine ⟨fun b H' => b = decide (i < ws.length) ∧ H = H', ?_, ?_⟩
      · refine ⟨_, rfl, _, rfl, a, _, rfl, .inl (SqL.of ha), _, _, rfl, rfl, _, rfl, ite2 (fun c => ?_) (fun c => ?_)⟩
        · have c' : ((i : Nat) : Int) < (((ws.map V.str).length : Nat) : Int) := of_decide_eq_true c
          refine ⟨_, rfl, rfl, _, rfl, ?_, rfl⟩
          rw [decide_eq_true (show i < ws.length by omega)]
          rfl
        · have c' : ¬ ((i : Nat) : Int) < (((ws.map V.str).length : Nat) : Int) := fun e => c (decide_eq_true e)
          exact ⟨(decide_eq_false (by omega)).symm, rfl⟩
      rintro _ _ ⟨rfl, rfl⟩
      refine ite2 (fun c => ?_) (fun c => ?_)
      · exact ⟨_, rfl, by show 2 ≤ sizeLine; decide, fun t ht => qn i (parse_zero c1) _ t (same_upd0 ht) upd_same⟩
      have c2 : i = ws.length := by
        have : ¬ i < ws.length := fun e => c (decide_eq_true e)
        omega
      refine ⟨5, rfl, by decide, by decide, for_range (lo := 0) (n := 5) (fun k σ G => (∃ x3, σ = [some (.ref a), some (.int (i : Nat)), some (.int (4 - ((0 : Nat) : Int))), x3, none, none, none, none]) ∧ G = H ∧ k = 0) ⟨⟨_, rfl⟩, rfl, rfl⟩ ?_ ?_⟩
      · rintro k σ G hk ⟨⟨x3, rfl⟩, rfl, rfl⟩
        refine ⟨_, rfl, _, rfl, _, _, rfl, rfl, _, rfl, a, _, rfl, .inl (SqL.of ha), rfl, _, rfl, ite2 (fun c => ?_) (fun c => ?_)⟩
        · refine iteT ⟨_, rfl, _, rfl, _, _, rfl, rfl, by show 2 ≤ sizeLine; decide, fun t ht => qn i (parse_zero c1) _ t (same_upd0 ht) ?_⟩
          rw [upd_same]
          show some (HO.tup [V.non, V.int (((i : Nat) : Int) + ((0 : Int) + ((0 : Nat) : Int)))]) = _
          rw [show ((i : Nat) : Int) + ((0 : Int) + ((0 : Nat) : Int)) = ((i : Nat) : Int) by omega]
        · exact absurd (decide_eq_true (show V.int (((i : Nat) : Int) + ((0 : Int) + ((0 : Nat) : Int))) = V.int (((ws.map V.str).length : Nat) : Int) by rw [eL]; congr 1; omega)) c
      · rintro σ G ⟨_, _, h⟩
        cases h
  | d + 1 => by
    have GR := ok_lread F gF bF ml mr FT bT gT GT d
    refine F.ok (k := 3 + d) scLRead (fun vs H Q E h => ?_) (fun cdv A outer s H vs Q E hr h => ?_)
    · obtain ⟨_, _, _, rfl, _⟩ := h
      rfl
    · obtain ⟨a, ws, i, rfl, hd, ha, hz, hi, qy, qn⟩ := h
      have hr2 : Room 2 _ := hr.mono (by omega)
      have eL : (ws.map V.str).length = ws.length := List.length_map _
      refine ⟨_, pss_cons (ps_if (pt_cut (PW.pt (pw_and (pt_cmpR op_lt (pv 1) (pe_callB call_len_seq (by rfl) ml PySem.boot_len (pa_cons (pv 0) pa_nil)) (nomark _)) (pw_and1 (pt_cmpR op_eq (pe_ix ix_list (pv 0) (pv 1) (fun _ _ => rfl)) pe_str (nomark _)))))) (pss_one (ps_ret (pe_tup (pa_cons (pe_op op_add (pv 1) pe_int) (pa_cons pe_non pa_nil))))) pss_nil)
      (pss_cons (ps_if (pt_cut (PW.pt (pw_and (pt_cmpR op_lt (pv 1) (pe_callB call_len_seq (by rfl) ml PySem.boot_len (pa_cons (pv 0) pa_nil)) (nomark _)) (pw_and1 (pt_cmpR op_eq (pv 2) pe_int (nomark _)))))) (pss_one (ps_ret (pe_tup (pa_cons pe_non (pa_cons (pv 1) pa_nil))))) pss_nil)
      (pss_cons (ps_for PassesOwn.never rfl (pi_range1 (by rfl) mr (pa_cons pe_int pa_nil)) (pg_name (i := 3) scLRead.nd rfl (Or.inl rfl))
        (pss_one (ps_if (PW.pt (pw_or (pt_cmpR op_eq (pe_op op_add (pv 1) (pv 3)) (pe_callB call_len_seq (by rfl) ml PySem.boot_len (pa_cons (pv 0) pa_nil)) (nomark _)) (pw_or1 (pt_not (pt_val (pe_call GT hr2 (by rfl) gT FT.kp bT .nil pass0 (pa_cons (pe_ix ix_list (pv 0) (pe_op op_add (pv 1) (pv 3)) (fun _ _ => rfl)) (pa_cons (pv 3) pa_nil))))))))
          (pss_one (ps_ret (pe_tup (pa_cons pe_non (pa_cons (pe_op op_add (pv 1) (pv 3)) pa_nil))))) pss_nil)))
      (pss_cons (ps_par (i := 4) (j := 5) (by rfl) scLRead.nd rfl rfl (by decide) rfl rfl (pa_cons (pe_op op_add (pv 1) pe_int) (pa_cons pe_bl pa_nil)) (by rfl))
      (pss_cons (ps_for PassesOwn.never rfl (pi_range1 (by rfl) mr (pa_cons pe_int pa_nil)) (pg_name (i := 6) scLRead.nd rfl (Or.inl rfl))
        (pss_one (ps_if (pt_cut (PW.pt (pw_and (pt_cmpR op_lt (pv 4) (pe_callB call_len_seq (by rfl) ml PySem.boot_len (pa_cons (pv 0) pa_nil)) (nomark _)) (pw_and (pt_cmpR op_eq (pe_ix ix_list (pv 0) (pv 4) (fun _ _ => rfl)) pe_str (nomark _)) (pw_and1 (pt_not (pt_val (pv 5))))))))
          (pss_one (ps_par (i := 4) (j := 5) (by rfl) scLRead.nd rfl rfl (by decide) rfl rfl (pa_cons (pe_op op_add (pv 4) pe_int) (pa_cons pe_bl pa_nil)) (by rfl)))
          (pss_cons (ps_asg (pe_call GR hr (by rfl) gF F.kp bF .nil pass0 (pa_cons (pv 0) (pa_cons (pv 4) (pa_cons (pe_op op_add (pv 2) pe_int) pa_nil)))) (pg_tup rfl (pgs_cons (pg_name (i := 4) scLRead.nd rfl (Or.inl rfl)) (pgs_cons (pg_name (i := 7) scLRead.nd rfl (Or.inl rfl)) pgs_nil))))
            (pss_one (ps_if (pt_cmpR op_notN (pv 7) pe_non (nomark _)) (pss_one (ps_ret (pe_tup (pa_cons pe_non (pa_cons (pv 7) pa_nil))))) pss_nil))))))
      (pss_one (ps_ret (pe_tup (pa_cons (pv 4) (pa_cons pe_non pa_nil))))))))), ?_⟩
      refine ⟨fun b H' => b = decide (ws.getD i "" = ("done" : Str)) ∧ H = H', ?_, ?_⟩
      · refine ⟨_, rfl, _, rfl, a, _, rfl, .inl (SqL.of ha), _, _, rfl, rfl, _, rfl, ite2 (fun c => ?_) (fun c => ?_)⟩
        · have c' : ((i : Nat) : Int) < (((ws.map V.str).length : Nat) : Int) := of_decide_eq_true c
          have hlt : i < ws.length := by omega
          exact ⟨_, rfl, _, rfl, a, _, _, _, rfl, rfl, SqL.of ha, atI_nat (j := i) (by rw [List.getElem?_map, List.getElem?_eq_getElem hlt]; rfl), rfl, _, rfl, by rw [getD_eq (List.getElem?_eq_getElem hlt), vstr_eq], rfl⟩
        · have c' : ¬ ((i : Nat) : Int) < (((ws.map V.str).length : Nat) : Int) := fun e => c (decide_eq_true e)
          refine ⟨?_, rfl⟩
          rw [List.getD_eq_getElem?_getD, List.getElem?_eq_none (by omega)]
          decide +kernel
      rintro _ _ ⟨rfl, rfl⟩
      refine ite2 (fun c => ?_) (fun c => ?_)
      · have c' := of_decide_eq_true c
        exact ⟨_, rfl, _, _, rfl, rfl, by show 2 ≤ sizeLine; decide, fun t ht => qy .done (i + 1) (parse_done c') _ t (same_upd0 ht) upd_same⟩
      have c1 : ¬ ws.getD i "" = ("done" : Str) := fun e => c (decide_eq_true e)
      clear c
      refine ⟨fun b H' => b = false ∧ H = H', ?_, ?_⟩
      · refine ⟨_, rfl, _, rfl, a, _, rfl, .inl (SqL.of ha), _, _, rfl, rfl, _, rfl, ite2 (fun c => ?_) (fun c => ?_)⟩
        · exact ⟨_, rfl, rfl, _, rfl, decide_eq_false fun e => by have := V.int.inj e; omega, rfl⟩
        · exact ⟨rfl, rfl⟩
      rintro _ _ ⟨rfl, rfl⟩
      refine iteF ?_
      refine ⟨5, rfl, by decide, by decide, for_range (lo := 0) (n := 5) (fun k σ G => (∃ x3, σ = [some (.ref a), some (.int (i : Nat)), some (.int (4 - ((d + 1 : Nat) : Int))), x3, none, none, none, none]) ∧ Same H G ∧ i + k ≤ ws.length ∧ fw (((ws.drop i).take 5).drop k) (F5.drop k) k = fw ((ws.drop i).take 5) F5 0) ⟨⟨_, rfl⟩, Same.refl _, hi, rfl⟩ ?_ ?_⟩
      · rintro k σ G hk ⟨⟨x3, rfl⟩, sG, hle, hfw⟩
        have aG := sG _ _ ha
        have e0 : (0 : Int) + (k : Int) = (k : Int) := by omega
        have e1 : ((i : Nat) : Int) + (k : Int) = (((i + k : Nat) : Nat) : Int) := by omega
        rw [e0]
        have ef : F5.drop k = F5.getD k "" :: F5.drop (k + 1) := by
          match k, hk with
          | 0, _ => rfl
          | 1, _ => rfl
          | 2, _ => rfl
          | 3, _ => rfl
          | 4, _ => rfl
        refine ⟨_, rfl, _, rfl, _, _, rfl, rfl, _, rfl, a, _, rfl, .inl (SqL.of aG), rfl, _, rfl, ?_⟩
        show if decide (V.int (((i : Nat) : Int) + (k : Int)) = V.int (((ws.map V.str).length : Nat) : Int)) = true then _ else _
        rw [e1]
        refine ite2 (fun c => ?_) (fun c => ?_)
        · have c' : (((i + k : Nat) : Nat) : Int) = (((ws.map V.str).length : Nat) : Int) := V.int.inj (of_decide_eq_true c)
          have hw : fw ((ws.drop i).take 5) F5 0 = some k := by
            rw [← hfw, ef, List.drop_of_length_le (by rw [List.length_take, List.length_drop]; omega)]
            rfl
          refine iteT ⟨_, rfl, _, rfl, _, _, rfl, rfl, by show 2 ≤ sizeLine; decide, fun t ht => qn (i + k) (parse_bad c1 hw) _ t (sG.trans (same_upd0 ht)) ?_⟩
          rw [upd_same, ← e1]
        have hlt : i + k < ws.length := by
          have : ¬ (((i + k : Nat) : Nat) : Int) = (((ws.map V.str).length : Nat) : Int) := fun e => c (decide_eq_true (by rw [e]))
          omega
        have hwi : (ws.map V.str)[i + k]? = some (V.str ws[i + k]) := by rw [List.getElem?_map, List.getElem?_eq_getElem hlt]; rfl
        have m0 := hz _ (List.getElem_mem hlt)
        have ew : ((ws.drop i).take 5).drop k = ws[i + k] :: ((ws.drop i).take 5).drop (k + 1) := by
          have hk2 : k < ((ws.drop i).take 5).length := by rw [List.length_take, List.length_drop]; omega
          rw [List.drop_eq_getElem_cons hk2]
          congr 1
          rw [List.getElem_take, List.getElem_drop]
        rw [ew, ef, fw_cons] at hfw
        refine ⟨_, rfl, _, rfl, _, rfl, _, _, rfl, rfl, a, _, _, _, rfl, rfl, SqL.of aG, atI_nat (j := i + k) hwi, _, rfl, ws[i + k], k, rfl, hk, m0.1, m0.2, fun G2 s2 => ⟨_, rfl, ?_⟩⟩
        cases hh : hasForm (F5.getD k "") ws[i + k] with
        | true =>
          rw [hh, if_pos rfl] at hfw
          exact iteF ⟨⟨_, rfl⟩, sG.trans s2, by omega, hfw⟩
        | false =>
          rw [hh, if_neg (by decide)] at hfw
          refine iteT ⟨_, rfl, _, rfl, _, _, rfl, rfl, by show 2 ≤ sizeLine; decide, fun t ht => qn (i + k) (parse_bad c1 hfw.symm) _ t ((sG.trans s2).trans (same_upd0 ht)) ?_⟩
          rw [upd_same, ← e1]
      rintro σ G ⟨⟨x3, rfl⟩, sG, hle, hfw⟩
      have hw : fw ((ws.drop i).take 5) F5 0 = none := by
        rw [← hfw, List.drop_of_length_le (by rw [List.length_take]; omega)]
        rfl
      obtain ⟨p1, p2, p3⟩ := parse_step (d := d) c1 hw
      have aG := sG _ _ ha
      refine ⟨_, rfl, _, _, rfl, rfl, _, _, rfl, ?_⟩
      refine ⟨2, rfl, by decide, by decide, for_range (lo := 0) (n := 2) (fun k σ G' => (∃ x3 x6 x7 sp lk, σ = [some (.ref a), some (.int (i : Nat)), some (.int (4 - ((d + 1 : Nat) : Int))), x3, some (.int (sp : Nat)), some (.bl lk), x6, x7] ∧
        ((k = 0 ∧ sp = i + 5 ∧ lk = false) ∨ (∃ p, k = 1 ∧ parse ws d (i + 5) true = .inr (p, sp) ∧ lk = decide (p = .none)) ∨ (∃ p b f, k = 2 ∧ parse ws d (i + 5) true = .inr (p, b) ∧ parse ws d b (decide (p ≠ .none)) = .inr (f, sp)))) ∧ Same H G') ⟨⟨_, _, _, i + 5, false, rfl, .inl ⟨rfl, rfl, rfl⟩⟩, sG⟩ ?_ ?_⟩
      · rintro k σ G' hk ⟨⟨x3, x6, x7, sp, lk, rfl, hs⟩, s'⟩
        have aG' := s' _ _ ha
        -- what the branch is to be
        obtain ⟨hsl, hcur⟩ : sp ≤ ws.length ∧ (∀ n, parse ws d sp (!lk) = .inl n → parse ws (d + 1) i false = .inl n) := by
          rcases hs with ⟨_, rfl, rfl⟩ | ⟨p, _, h1, rfl⟩ | ⟨p, b, f, hk2, _⟩
          · exact ⟨(check_of hw).2, p1⟩
          · refine ⟨parse_lt h1, fun n h2 => p2 p sp n h1 ?_⟩
            rw [← h2]
            congr 1
            simp
          · omega
        have hnext : ∀ (q : Pl) (e : Nat) (lk' : Bool), parse ws d sp (!lk) = .inr (q, e) → (k = 0 → lk' = decide (q = .none)) → ((k + 1 = 0 ∧ e = i + 5 ∧ lk' = false) ∨ (∃ p, k + 1 = 1 ∧ parse ws d (i + 5) true = .inr (p, e) ∧ lk' = decide (p = .none)) ∨ (∃ p b f, k + 1 = 2 ∧ parse ws d (i + 5) true = .inr (p, b) ∧ parse ws d b (decide (p ≠ .none)) = .inr (f, e))) := by
          intro q e lk' h2 hl
          rcases hs with ⟨rfl, rfl, rfl⟩ | ⟨p, rfl, h1, rfl⟩ | ⟨p, b, f, hk2, _⟩
          · exact .inr (.inl ⟨q, rfl, h2, hl rfl⟩)
          · refine .inr (.inr ⟨p, sp, q, rfl, h1, ?_⟩)
            rw [← h2]
            congr 1
            simp
          · omega
        refine ⟨fun b H' => b = (decide (ws.getD sp "" = ("none" : Str)) && !lk) ∧ G' = H', ?_, ?_⟩
        · refine ⟨_, rfl, _, rfl, a, _, rfl, .inl (SqL.of aG'), _, _, rfl, rfl, _, rfl, ite2 (fun c => ?_) (fun c => ?_)⟩
          · have c' : ((sp : Nat) : Int) < (((ws.map V.str).length : Nat) : Int) := of_decide_eq_true c
            have hlt : sp < ws.length := by omega
            refine ⟨_, rfl, _, rfl, a, _, _, _, rfl, rfl, SqL.of aG', atI_nat (j := sp) (by rw [List.getElem?_map, List.getElem?_eq_getElem hlt]; rfl), rfl, _, rfl, ?_⟩
            rw [vstr_eq, getD_eq (List.getElem?_eq_getElem hlt)]
            by_cases cn : ws[sp] = ("none" : Str)
            · rw [decide_eq_true cn]
              exact iteT ⟨_, rfl, _, rfl, rfl, rfl⟩
            · rw [decide_eq_false cn]
              exact iteF ⟨rfl, rfl⟩
          · have c' : ¬ ((sp : Nat) : Int) < (((ws.map V.str).length : Nat) : Int) := fun e => c (decide_eq_true e)
            refine ⟨?_, rfl⟩
            rw [List.getD_eq_getElem?_getD, List.getElem?_eq_none (by omega)]
            rfl
        rintro _ _ ⟨rfl, rfl⟩
        refine ite2 (fun c => ?_) (fun c => ?_)
        · rw [Bool.and_eq_true] at c
          obtain ⟨cn, cl⟩ := c
          have hp : parse ws d sp (!lk) = .inr (.none, sp + 1) := by
            rw [cl]
            exact parse_none (of_decide_eq_true cn)
          refine ⟨_, rfl, _, _, rfl, rfl, _, _, rfl, ?_⟩
          exact ⟨⟨_, _, _, sp + 1, true, rfl, hnext .none (sp + 1) true hp fun _ => rfl⟩, s'⟩
        · have hp : parse ws d sp (!lk) = parse ws d sp false := by
            cases el : lk with
            | true => rfl
            | false =>
              refine parse_mb fun e => c ?_
              rw [el, decide_eq_true e.1]
              rfl
          have ed : 4 - ((d + 1 : Nat) : Int) + 1 = 4 - (d : Int) := by omega
          refine ⟨_, rfl, _, rfl, _, rfl, _, _, rfl, rfl, a, ws, sp, by show [V.ref a, V.int ((sp : Nat) : Int), V.int (4 - ((d + 1 : Nat) : Int) + 1)] = _; rw [ed], by omega, aG', hz, hsl, fun q e h2 H5 t s5 ht => ?_, fun n h2 H5 t s5 ht => ?_⟩
          · refine ⟨t, _, rfl, SqT.of ht, rfl, _, _, rfl, _, _, rfl, rfl, ?_⟩
            refine ⟨_, rfl, rfl, _, rfl, ?_⟩
            rw [show (!decide (V.non = V.non)) = false from rfl]
            refine iteF ⟨⟨_, _, _, e, lk, rfl, hnext q e lk (hp.trans h2) fun k0 => ?_⟩, s'.trans s5⟩
            rcases hs with ⟨_, _, rfl⟩ | ⟨p, k1, _⟩ | ⟨_, _, _, k2, _⟩
            · exact (decide_eq_false fun z => by have := (parse_of _ _ _ _ _ _ h2).2.2.1 z; cases this).symm
            · omega
            · omega
          · refine ⟨t, _, rfl, SqT.of ht, rfl, _, _, rfl, _, _, rfl, rfl, ?_⟩
            refine ⟨_, rfl, rfl, _, rfl, ?_⟩
            rw [show (!decide (V.int (n : Nat) = V.non)) = true from rfl]
            exact iteT ⟨_, rfl, by show 2 ≤ sizeLine; decide, fun r hr' => qn n (hcur n (hp.trans h2)) _ r ((s'.trans s5).trans (same_upd0 hr')) upd_same⟩
      · rintro σ G' ⟨⟨x3, x6, x7, sp, lk, rfl, hs⟩, s'⟩
        rcases hs with ⟨k0, _⟩ | ⟨_, k1, _⟩ | ⟨p, b, f, _, h1, h2⟩
        · cases k0
        · cases k1
        · obtain ⟨pl, h3⟩ := p3 p b f sp h1 h2
          exact ⟨_, rfl, by show 2 ≤ sizeLine; decide, fun t ht => qy pl sp h3 _ t (s'.trans (same_upd0 ht)) upd_same⟩
end
end K81

namespace K81
open PySem PySem.Spec PyProof.Rows L2 So TL
abbrev sDue : Stmt := topS 67
abbrev dueN : List Str := ["_law_page", "_law_lines", "_law_words", "_law_end", "_law_fault"]
theorem scDue : FnScope dueN ["_law_page"] (defScope sDue) := ⟨rfl, rfl, rfl, by decide +kernel, rfl, by decide +kernel, by decide +kernel⟩
theorem line_asc {z w : Str} (h : asc z) (hw : w ∈ Txt.split z "\n") : asc w := by
  intro c hc
  refine h c ?_
  have e := StrLaws.join_split z "\n"
  have e2 : tl (Str.join "\n" (Txt.split z "\n")) = tl z := by rw [e]
  rw [tl_join] at e2
  show c ∈ tl z
  rw [← e2]
  exact mem_joinL (List.mem_map_of_mem hw) hc
section
variable {P : Program} {w : World} {K : PySem.W.Frag} {mg : Str → Option Value} {base : Heap}
def spDue : Sp := fun vs H Q _ => ∃ (z p0 : Str) (ps : List Str), vs = [.str z] ∧ z.length ≤ 2000 ∧ asc z ∧ Txt.split z "\n" = p0 :: ps ∧
  (∀ i n : Nat, dueOf p0 ps = .inl (i, n) → ∀ (H' : Hp) (t : Addr), Same H H' → H' t = some (.tup [.int (i : Nat), .int (n : Nat)]) → Q (.ref t) H') ∧
  (∀ pl, dueOf p0 ps = .inr pl → ∀ H', Same H H' → Q .non H')
theorem ok_due {f fR : Addr} {fd fdR : FuncData} (F : Fun K "_law_due" "_law_due" sDue f fd) (ml : mg "len" = none)
    (FR : Fun K "_law_read" "_law_read" sLRead fR fdR) (gR : mg "_law_read" = some (.ref fR)) (bR : Binds K fdR ["_law_words", "_law_at", "_law_deep"] []) (GR : FnOk P w K mg base CX0 7 fR fdR ["_law_words", "_law_at", "_law_deep"] (spLRead 4)) :
    FnOk P w K mg base CX0 8 f fd ["_law_page"] spDue := by
  refine F.ok scDue (fun vs H Q E h => ?_) (fun cdv A outer s H vs Q E hr h => ?_)
  · obtain ⟨z, _, _, rfl, _⟩ := h
    rfl
  · obtain ⟨z, p0, ps, rfl, hz, hasc, hsp, q0, q1⟩ := h
    refine ⟨_, pss_cons (ps_set (i := 1) scDue.nd rfl (.inl rfl) (pe_split (pv 0) pe_str))
      (pss_cons (ps_set (i := 2) scDue.nd rfl (.inl rfl) (pe_split (pe_ix ix_list (pv 1) pe_int (fun _ _ => rfl)) pe_str))
      (pss_cons (ps_asg (pe_call GR hr (by rfl) gR FR.kp bR .nil pass0 (pa_cons (pv 2) (pa_cons pe_int (pa_cons pe_int pa_nil)))) (pg_tup rfl (pgs_cons (pg_name (i := 3) scDue.nd rfl (Or.inl rfl)) (pgs_cons (pg_name (i := 4) scDue.nd rfl (Or.inl rfl)) pgs_nil))))
      (pss_cons (ps_if (pt_cmpR op_notN (pv 4) pe_non (nomark _)) (pss_one (ps_ret (pe_tup (pa_cons pe_int (pa_cons (pv 4) pa_nil))))) pss_nil)
      (pss_cons (ps_if (pt_cmpR op_lt (pv 3) (pe_callB call_len_seq (by rfl) ml PySem.boot_len (pa_cons (pv 2) pa_nil)) (nomark _)) (pss_one (ps_ret (pe_tup (pa_cons pe_int (pa_cons (pv 3) pa_nil))))) pss_nil)
      (pss_one (ps_ret (pe_ifExp (pt_cmpR op_gt (pe_callB call_len_seq (by rfl) ml PySem.boot_len (pa_cons (pv 1) pa_nil)) pe_int (nomark _)) (pe_tup (pa_cons pe_int (pa_cons pe_int pa_nil))) pe_non))))))), ?_⟩
    have hp0 : p0.length ≤ 2000 := Nat.le_trans (part_short (by rw [hsp]; exact List.mem_cons_self : p0 ∈ Txt.split z "\n")) hz
    have ha0 : asc p0 := line_asc hasc (by rw [hsp]; exact List.mem_cons_self)
    have hwl : ∀ x ∈ Txt.split p0 " ", x.length ≤ 2000 ∧ asc x := fun x hx => ⟨Nat.le_trans (part_short hx) hp0, split_asc ha0 hx⟩
    refine ⟨_, rfl, ⟨_, rfl⟩, _, _, rfl, rfl, by decide, Nat.le_trans (Nat.add_le_add_right hz 2) (by decide), fun a ha => ?_⟩
    rw [hsp]
    have s1 := same_upd0 (o := .lst ((p0 :: ps).map V.str)) ha
    have a1 : (upd H a (.lst ((p0 :: ps).map V.str))) a = some (.lst ((p0 :: ps).map V.str)) := upd_same
    revert s1 a1
    generalize upd H a (.lst ((p0 :: ps).map V.str)) = H1
    intro s1 a1
    refine ⟨_, rfl, a, _, _, _, rfl, rfl, SqL.of a1, atI_nat (j := 0) rfl, ⟨_, rfl⟩, _, _, rfl, rfl, by decide, Nat.le_trans (Nat.add_le_add_right hp0 2) (by decide), fun b hb => ?_⟩
    have a2 := same_upd0 (o := .lst ((Txt.split p0 " ").map V.str)) hb _ _ a1
    have s2 := s1.trans (same_upd0 (o := .lst ((Txt.split p0 " ").map V.str)) hb)
    have b2 : (upd H1 b (.lst ((Txt.split p0 " ").map V.str))) b = some (.lst ((Txt.split p0 " ").map V.str)) := upd_same
    generalize upd H1 b (.lst ((Txt.split p0 " ").map V.str)) = H2 at a2 s2 b2 ⊢
    have eL : ((Txt.split p0 " ").map V.str).length = (Txt.split p0 " ").length := List.length_map _
    refine ⟨_, rfl, b, Txt.split p0 " ", 0, rfl, by decide, b2, hwl, Nat.zero_le _, fun pl e hp H3 t s3 ht => ?_, fun n hn H3 t s3 ht => ?_⟩
    · refine ⟨t, _, rfl, SqT.of ht, rfl, _, _, rfl, _, _, rfl, rfl, ?_⟩
      refine ⟨_, rfl, rfl, _, rfl, ?_⟩
      rw [show (!decide (V.non = V.non)) = false from rfl]
      refine iteF ⟨_, rfl, _, rfl, b, _, rfl, .inl (SqL.of (s3 _ _ b2)), _, _, rfl, rfl, _, rfl, ite2 (fun c => ?_) (fun c => ?_)⟩
      · have c' : ((e : Nat) : Int) < (((((Txt.split p0 " ").map V.str).length : Nat)) : Int) := of_decide_eq_true c
        exact ⟨_, rfl, by show 2 ≤ sizeLine; decide, fun r hr' => q0 0 e (due_more hp (by omega)) _ r ((s2.trans s3).trans (same_upd0 hr')) upd_same⟩
      · have c' : ¬ ((e : Nat) : Int) < (((((Txt.split p0 " ").map V.str).length : Nat)) : Int) := fun h => c (decide_eq_true h)
        have c2 : ¬ e < (Txt.split p0 " ").length := by omega
        have eP : ((p0 :: ps).map V.str).length = ps.length + 1 := by rw [List.length_map]; rfl
        refine ⟨_, rfl, a, _, rfl, .inl (SqL.of (s3 _ _ a2)), _, _, rfl, rfl, _, rfl, ite2 (fun c3 => ?_) (fun c3 => ?_)⟩
        · have c4 : (1 : Int) < ((((p0 :: ps).map V.str).length : Nat) : Int) := of_decide_eq_true c3
          have hps : ps ≠ [] := fun e => by rw [eP, e] at c4; simp at c4
          exact ⟨by show 2 ≤ sizeLine; decide, fun r hr' => q0 1 0 (due_lines hp c2 hps) _ r ((s2.trans s3).trans (same_upd0 hr')) upd_same⟩
        · have c4 : ¬ (1 : Int) < ((((p0 :: ps).map V.str).length : Nat) : Int) := fun e => c3 (decide_eq_true e)
          have hps : ps = [] := List.eq_nil_of_length_eq_zero (by omega)
          exact q1 pl (due_ok hp c2 hps) H3 (s2.trans s3)
    · refine ⟨t, _, rfl, SqT.of ht, rfl, _, _, rfl, _, _, rfl, rfl, ?_⟩
      refine ⟨_, rfl, rfl, _, rfl, ?_⟩
      rw [show (!decide (V.int (n : Nat) = V.non)) = true from rfl]
      exact iteT ⟨_, rfl, by show 2 ≤ sizeLine; decide, fun r hr' => q0 0 n (due_err hn) _ r ((s2.trans s3).trans (same_upd0 hr')) upd_same⟩
end
end K81

/-! text.replace(a, b, 1), a and b written; an IfExp that has given a token out -/
namespace So
open PySem PySem.Builtin PySem.Builtin.Str PySem.Spec PyProof.Rows L2
/-- the first y of x, replaced -/
def rep1 (x y z : Str) : Str :=
  if ((occurrences x y 0 x.length 1).isEmpty || (y.length == 0 && z.length == 0)) = true then x else glued z (partsBetween x (occurrences x y 0 x.length 1) y.length)
theorem gives_rep1 (x y z : Str) (t u v a : Tok) (h0 : (u == 0 || v == 0) = false) (huv : (u == v) = false) (hyz : (y == z) = false) (hl : tooLong (x.length + (occurrences x y 0 x.length 1).length * z.length) = false) :
    Gives («str.replace» ⟨[.str x t, .str y u, .str z v, .int 1 a], []⟩) (if ((occurrences x y 0 x.length 1).isEmpty || (y.length == 0 && z.length == 0)) = true then .val (.str x t) else .str (glued z (partsBetween x (occurrences x y 0 x.length 1) y.length))) := by
  show Gives (do let limit ← countLimit "str.replace" (some (.int 1 a)) (x.length + 1)
                 if ((occurrences x y 0 x.length limit).isEmpty || (y.length == 0 && z.length == 0)) = true then (do rule "str.replace.nothing"; ret (.str x t)) else
                   (do let same ← isSame (.str y u) (.str z v)
                       if same = true then (do rule "str.replace.old-is-new"; ret (.str x t)) else
                       if tooLong (x.length + (occurrences x y 0 x.length limit).length * z.length) = true then unsupported "str.replace:memory" else
                       retStr (glued z (partsBetween x (occurrences x y 0 x.length limit) y.length)))) _
  have e : countLimit "str.replace" (some (.int 1 a)) (x.length + 1) = pure 1 := by
    show (do let i ← asSsize "str.replace" (.int 1 a); pure (if i < 0 then x.length + 1 else i.toNat)) = _
    rw [asSsize_int "str.replace" 1 a (by decide)]
    rfl
  rw [e]
  show Gives (if ((occurrences x y 0 x.length 1).isEmpty || (y.length == 0 && z.length == 0)) = true then (do rule "str.replace.nothing"; ret (.str x t)) else
                   (do let same ← isSame (.str y u) (.str z v)
                       if same = true then (do rule "str.replace.old-is-new"; ret (.str x t)) else
                       if tooLong (x.length + (occurrences x y 0 x.length 1).length * z.length) = true then unsupported "str.replace:memory" else
                       retStr (glued z (partsBetween x (occurrences x y 0 x.length 1) y.length)))) _
  cases hc : ((occurrences x y 0 x.length 1).isEmpty || (y.length == 0 && z.length == 0))
  · rw [isSame_str_other y z u v h0 huv hyz, hl]
    exact .of_eq rfl
  · exact .rule (.of_eq rfl)
theorem rep1_len (x y z : Str) : (rep1 x y z).length ≤ x.length + z.length := by
  unfold rep1
  split
  · exact Nat.le_add_right _ _
  · have h1 := StrLaws.occ_length_le x y 0 x.length 1
    have hy : (glued y (partsBetween x (occurrences x y 0 x.length 1) y.length)).length = x.length := by rw [StrLaws.glued_between_self]
    rw [size_glued, length_partsBetween, Nat.add_sub_cancel] at hy
    rw [size_glued, length_partsBetween, Nat.add_sub_cancel]
    have h2 : (occurrences x y 0 x.length 1).length * z.length ≤ 1 * z.length := Nat.mul_le_mul_right _ h1
    omega
section
variable {X : Cx}
theorem pet_rep1 {ik : Nat} {kx y z : Str} {j0 j1 j2 : Nat} {p1 c0 c1 c2 apos pos : Pos} (hNk : X.N[ik]? = some kx) (hvk : Vis X.env.scope kx)
    (hdk : (kx == ("__debug__" : Str)) = false := by decide) (hck : (kx == ("__classdict__" : Str)) = false := by decide)
    (hst : starEach [.Constant (.str y) j0 c0, .Constant (.str z) j1 c1, .Constant (.int 1) j2 c2] X.env = [(false, eval (.Constant (.str y) j0 c0) X.env), (false, eval (.Constant (.str z) j1 c1) X.env), (false, eval (.Constant (.int 1) j2 c2) X.env)] := by rfl)
    (hbase : attributeBase (.Name kx p1) "replace" X.env (eval (.Name kx p1) X.env) = eval (.Name kx p1) X.env := by rfl) (hline : (apos.endLine == pos.line) = true := by rfl) :
    PET X (.Call (.Attribute (.Name kx p1) "replace" apos) [.Constant (.str y) j0 c0, .Constant (.str z) j1 c1, .Constant (.int 1) j2 c2] [] pos)
      (fun σ H Q => ∃ x, σ[ik]? = some (some (.str x)) ∧ (y == z) = false ∧ x.length + z.length < sizeLine ∧ Q (.str (rep1 x y z)) H) := by
  intro pins s σ H Q h0 I h
  obtain ⟨x, hx, hyz, hb, q⟩ := h
  refine wpAny_Call_method_lateS hbase (by rw [hst]; rfl) hline ?_
  rw [hst]
  refine raw_name hNk hvk I hx (fun v r => ?_) hdk hck
  obtain ⟨tx, e⟩ := r
  subst e
  refine ⟨"str", _, F.plainAttrs_str, F.slot_str_replace, F.type_str_replace, typeIs_str _ _ _, (fun _ e => nomatch e), Calls.callWith_builtin rfl (Calls.evalArgs_plain (Calls.spliced_cons (Calls.Constant_str (k := j0) (pos := c0) (Calls.spliced_cons (Calls.Constant_str (k := j1) (pos := c1) (Calls.spliced_cons (wpAny_Constant_int (k := j2) (pos := c2) (Calls.spliced_nil ?_))))))))⟩
  have hl : tooLong (x.length + (occurrences x y 0 x.length 1).length * z.length) = false := by
    have h1 := StrLaws.occ_length_le x y 0 x.length 1
    have h2 : (occurrences x y 0 x.length 1).length * z.length ≤ 1 * z.length := Nat.mul_le_mul_right _ h1
    unfold tooLong
    exact decide_eq_false (by omega)
  have e0 : (s.toks == 0 || s.toks + 1 == 0) = false := by simp; omega
  have e1 : (s.toks == s.toks + 1) = false := by simp
  refine call_gives (Q := EP X pins σ Q) F.slot_str_replace (typeIs_str _ _ _) F.entry_str_replace (F.args_str_replace_4 _ _ _ _) (gives_rep1 x y z tx s.toks (s.toks + 1) _ e0 e1 hyz hl) ?_
  have hr : (rep1 x y z).length ≤ sizeLine := Nat.le_trans (rep1_len x y z) (Nat.le_of_lt hb)
  unfold rep1 at q hr
  cases hc : ((occurrences x y 0 x.length 1).isEmpty || (y.length == 0 && z.length == 0))
  · rw [hc, if_neg Bool.false_ne_true] at q hr
    rw [if_neg Bool.false_ne_true]
    exact ⟨hr, V.str (glued z (partsBetween x (occurrences x y 0 x.length 1) y.length)), H, I.tok _, ⟨_, rfl⟩, q⟩
  · rw [hc, if_pos rfl] at q
    rw [if_pos rfl]
    exact ⟨V.str x, H, I.tok _, ⟨_, rfl⟩, q⟩
theorem mem_join {S : List Nat} {c : Nat} : ∀ {ps : List (List Nat)} {p : List Nat}, p ∈ ps → c ∈ p → c ∈ TL.joinL S ps
  | [], _, h, _ => nomatch h
  | [p], _, h, hc => by
    rw [List.mem_singleton.mp h] at hc
    exact hc
  | p :: q :: r, w, h, hc => by
    show c ∈ p ++ (S ++ TL.joinL S (q :: r))
    rcases List.mem_cons.mp h with e | e
    · exact List.mem_append_left _ (e ▸ hc)
    · exact List.mem_append_right _ (List.mem_append_right _ (mem_join e hc))
theorem of_join {S : List Nat} {c : Nat} : ∀ {ps : List (List Nat)}, c ∈ TL.joinL S ps → c ∈ S ∨ ∃ p ∈ ps, c ∈ p
  | [], h => nomatch h
  | [p], h => .inr ⟨p, List.mem_singleton.mpr rfl, h⟩
  | p :: q :: r, h => by
    have h : c ∈ p ++ (S ++ TL.joinL S (q :: r)) := h
    rcases List.mem_append.mp h with e | e
    · exact .inr ⟨p, List.mem_cons_self, e⟩
    · rcases List.mem_append.mp e with e | e
      · exact .inl e
      · rcases of_join e with e | ⟨w, hw, e⟩
        · exact .inl e
        · exact .inr ⟨w, List.mem_cons_of_mem _ hw, e⟩
/-- the signs of it are signs of the texts -/
theorem rep1_mem {x y z : Str} {c : Nat} (h : c ∈ (rep1 x y z).cps.toList) : c ∈ x.cps.toList ∨ c ∈ z.cps.toList := by
  unfold rep1 at h
  split at h
  · exact .inl h
  · have hy := StrLaws.glued_between_self x y 1
    rw [StrLaws.glued_eq_join] at h hy
    have h : c ∈ TL.tl (Str.join z (partsBetween x (occurrences x y 0 x.length 1) y.length)) := h
    rw [TL.tl_join] at h
    rcases of_join h with e | ⟨p, hp, e⟩
    · exact .inr e
    · left
      show c ∈ TL.tl x
      rw [← hy, TL.tl_join]
      exact mem_join hp e
/-- b if a op n else c, n a written int: behind it a token is out -/
theorem pe_ifT {op : CmpOp} {r : R2} {a b c : Expr} {n : Int} {k : Nat} {cp cpos pos : Pos} {ta tb tc : TE} (ho : OpR X (compareOp op) r) (ha : PE X a ta) (hb : PE X b tb) (hc : PET X c tc) (hm : behindInMarks op (.Constant (.int n) k cp) = false) :
    PE X (.IfExp (.Compare a [op] [.Constant (.int n) k cp] cpos) b c pos) (tIf (tTest (tOp r ta (tC (.int n)))) tb tc) := by
  refine ⟨fun pins s σ H Q I h => ?_⟩
  refine wpAny_IfExp (wpAny_isTrue_Compare1 (thn (ha.run pins s σ H _ I h) fun v s1 ⟨x, H1, I1, r1, q1⟩ => wpAny_Constant_int ?_) hm)
  refine wpAny_mono (wpAny_toks (ho pins { s1 with toks := s1.toks + 1 } σ H1 x (.int n) v _ _ (I1.tok _) r1 ⟨_, rfl⟩ q1)) (fun d s3 hh => ?_) (fun _ _ z => z.2)
  obtain ⟨hk, z, H3, I3, r3, d2, e, q3⟩ := hh
  subst e
  cases r3
  have hk2 : 1 ≤ s3.toks := by
    have : s1.toks + 1 ≤ s3.toks := hk
    omega
  refine wpAny_truthy_bool ?_
  cases d2 with
  | true => exact hb.run pins s3 σ H3 Q I3 q3
  | false => exact hc pins s3 σ H3 Q hk2 I3 q3
end
end So

/-! a list of anything == [], != [] -/
namespace So
open PySem PySem.Spec PyProof.Rows L2
section
variable {X : Cx}
theorem isL {hp : Heap} {a : Addr} {its : Array Value} (h : PlainL hp a its) : hp.IsList a its := by
  obtain ⟨o, n, e, c, d, dt⟩ := h
  exact ⟨o, e, c, n, dt⟩
def rNil (K : PySem.W.Frag) (neg : Bool) : R2 := fun x y H Q => ∃ (a b : Addr) (xs : List V), x = .ref a ∧ y = .ref b ∧ SqL K H a xs ∧ SqL K H b [] ∧ Q (.bl (if neg then !xs.isEmpty else xs.isEmpty)) H
theorem op_neNil (hu : X.A.units < cLine) : OpR X (compareOp .NotEq) (rNil X.K true) := by
  intro pins s σ H x y v u Q I rx ry h
  obtain ⟨a, b, xs, rfl, rfl, ha, hb, q⟩ := h
  cases rx
  cases ry
  obtain ⟨its, rv, hl, hz⟩ := I.list ha
  obtain ⟨its2, rv2, hl2, hz2⟩ := I.list hb
  cases rv2
  cases xs with
  | nil =>
    cases rv
    exact PySem.SeqAt.RcNeAt.lists (e := fun _ => true) (isL hl) (isL hl2) rfl hu (fun j h1 _ => absurd h1 (Nat.not_lt_zero j)) X.prog X.w _ _ ⟨.bl false, H, I, rfl, q⟩
  | cons x r =>
    cases rv with
    | cons r1 r2 => exact PySem.SeqAt.RcNeAt.lists_lengths (isL hl) (isL hl2) (by simp) hu X.prog X.w _ _ ⟨.bl true, H, I, rfl, q⟩
theorem op_eqNil (hu : X.A.units < cLine) : OpR X (compareOp .Eq) (rNil X.K false) := by
  intro pins s σ H x y v u Q I rx ry h
  obtain ⟨a, b, xs, rfl, rfl, ha, hb, q⟩ := h
  cases rx
  cases ry
  obtain ⟨its, rv, hl, hz⟩ := I.list ha
  obtain ⟨its2, rv2, hl2, hz2⟩ := I.list hb
  cases rv2
  cases xs with
  | nil =>
    cases rv
    exact PySem.SeqAt.RcAt.lists (e := fun _ => true) (isL hl) (isL hl2) rfl hu (fun j h1 _ => absurd h1 (Nat.not_lt_zero j)) X.prog X.w _ _ ⟨.bl true, H, I, rfl, q⟩
  | cons x r =>
    cases rv with
    | cons r1 r2 => exact PySem.SeqAt.RcAt.lists_lengths (isL hl) (isL hl2) (by simp) hu X.prog X.w _ _ ⟨.bl false, H, I, rfl, q⟩
end
end So

namespace K81
open PySem PySem.Spec PyProof.Rows L2 So TL
abbrev sBent : Stmt := topS 68
abbrev bentN : List Str := ["_law_pen_here", "_law_page", "_law_words", "_law_at", "_law_way", "_law_odd", "_law_ends", "_law_found", "_law_k"]
theorem scBent : FnScope bentN ["_law_pen_here", "_law_page"] (defScope sBent) := ⟨rfl, rfl, rfl, by decide +kernel, rfl, by decide +kernel, by decide +kernel⟩
theorem ixl {X : Cx} {K : PySem.W.Frag} (h : X.K = K) : IxR X (rIxL K) := by
  subst h
  exact ix_list
theorem insK {X : Cx} {K : PySem.W.Frag} (h : X.K = K) : OpR X (compareOp .In) (rIn K false) := by
  subst h
  exact op_in_seq
def odds : List Str := ["", "check", "by", "a", "0", "03", "none", "done", "sound", "None", ("1" : Str) ++ Txt.mul ("0" : Str) 31, "done\n"]
abbrev odds1 : List V := [.str "", .str "check", .str "by", .str "a", .str "0", .str "03", .str "none", .str "done", .str "sound", .str "None", .str (("1" : Str) ++ Txt.mul ("0" : Str) 31), .str "done\n"]
def addsA : List Str := ["", "done", "none", "check"]
def addsB : List Str := ["none", "check b 7 by b done none", "done"]
def addsC : List Str := ["\n", "\ndone", "\n\n"]
theorem odds_ok : ∀ o ∈ odds, small o = true := by decide +kernel
theorem addsA_ok : ∀ o ∈ addsA, small o = true := by decide +kernel
theorem addsB_ok : ∀ o ∈ addsB, small o = true := by decide +kernel
theorem addsC_ok : ∀ o ∈ addsC, small o = true ∧ o.length ≤ 5 := by decide +kernel
theorem mul_ok : MulOk ("0" : Str) 31 := by
  unfold MulOk
  decide +kernel
theorem cut_take (xs : List V) (k : Nat) (h : k ≤ xs.length) : cutV xs none (some (k : Int)) = xs.take k := by
  unfold cutV
  rw [HT.sIx_none, HT.sIx_nat]
  show (xs.drop 0).take (min k xs.length - 0) = _
  rw [List.drop_zero, Nat.min_eq_left h, Nat.sub_zero]
theorem wsum_take (ws : List Str) (k : Nat) : wsum (ws.take k) ≤ wsum ws := by
  have h := wsum_app (ws.take k) (ws.drop k)
  rw [List.take_append_drop] at h
  omega
theorem wsum_len (ws : List Str) : ws.length ≤ wsum ws := by
  unfold wsum
  omega
def St9 (p a o : Addr) (z : Str) (d w : Int) (e : Option V) : L2.St := [some (.ref p), some (.str z), some (.ref a), some (.int d), some (.int w), some (.ref o), e, none, none]
theorem St9_a {p a a' o : Addr} {z : Str} {d w : Int} {e e' : Option V} (h : St9 p a o z d w e = St9 p a' o z d w e') : a = a' := by
  unfold St9 at h
  simp only [List.cons.injEq, Option.some.injEq, V.ref.injEq] at h
  exact h.2.2.1
def Mid (p l o : Addr) (ns : List Int) (n : Nat) (z : Str) (L : Nat) (w d : Int) (H : Hp) (k : Int) : L2.St → Hp → Prop := fun σ' G =>
  ∃ a : Addr, σ' = St9 p a o z d w none ∧ H a = none ∧ a ≠ p ∧ a ≠ l ∧ o ≠ a ∧ Off p H G ∧ G o = some (.lst (odds.map V.str)) ∧ ∃ (ws : List Str) (n' : Nat) (g' : Int), G a = some (.lst (ws.map V.str)) ∧ Pen G p l ns n' g' ∧ n' ≤ n + 3 ∧
  ((w < k ∧ wsum ws ≤ L + 34 ∧ ∀ x ∈ ws, asc x) ∨ (k ≤ w ∧ ws = Txt.split z " " ∧ n' ≤ n + 2))
section
variable {P : Program} {w : World} {K : PySem.W.Frag} {mg : Str → Option Value} {base : Heap}
def spBent : Sp := fun vs H Q _ => ∃ (p l : Addr) (ns : List Int) (n : Nat) (g : Int) (z : Str) (L : Nat), vs = [.ref p, .str z] ∧ Pen H p l ns n g ∧ n < 900000 ∧ Lin L z ∧ L ≤ 930 ∧
  ∀ (z' : Str) (n' : Nat) (g' : Int) (H' : Hp), Lin (L + 45) z' → n' ≤ n + 6 → Off p H H' → Pen H' p l ns n' g' → Q (.str z') H'
theorem ok_bent {f fD fP : Addr} {fd fdD fdP : FuncData} (F : Fun K "_law_bent" "_law_bent" sBent f fd) (ml : mg "len" = none) (mr : mg "range" = none)
    (FD : Fun K "_law_draw" "_law_draw" sDraw fD fdD) (bD : Binds K fdD ["_law_pen_here", "_law_many"] []) (gD : mg "_law_draw" = some (.ref fD)) (GD : FnOk P w K mg base CX0 1 fD fdD ["_law_pen_here", "_law_many"] spDraw)
    (FP : Fun K "_law_pick" "_law_pick" sPick fP fdP) (bP : Binds K fdP ["_law_pen_here", "_law_some"] []) (gP : mg "_law_pick" = some (.ref fP)) (GP : FnOk P w K mg base CX0 2 fP fdP ["_law_pen_here", "_law_some"] (spPick K)) :
    FnOk P w K mg base CX0 3 f fd ["_law_pen_here", "_law_page"] spBent := by
  refine F.ok scBent (fun vs H Q E h => ?_) (fun cdv A outer s H vs Q E hr h => ?_)
  · obtain ⟨_, _, _, _, _, _, _, rfl, _⟩ := h
    rfl
  · obtain ⟨p, l, ns, n, g, z, L, rfl, hp, hn, hL, hL5, q⟩ := h
    have hr1 : Room 1 _ := hr.mono (by decide)
    refine ⟨_, pss_cons (ps_set (i := 2) scBent.nd rfl (.inr rfl) (pe_split (pv 1) pe_str))
      (pss_cons (ps_par (i := 3) (j := 4) (by rfl) scBent.nd rfl rfl (by decide) rfl rfl (pa_cons (pe_call GD hr1 (by rfl) gD FD.kp bD .nil pass0 (pa_cons (pv 0) (pa_cons (pe_callB call_len_seq (by rfl) ml PySem.boot_len (pa_cons (pv 2) pa_nil)) pa_nil))) (pa_cons (pe_call GD hr1 (by rfl) gD FD.kp bD .nil pass0 (pa_cons (pv 0) (pa_cons pe_int pa_nil))) pa_nil)) (by rfl))
      (pss_cons (ps_set (i := 5) scBent.nd rfl (.inl rfl) (pe_lst (pa_cons pe_str (pa_cons pe_str (pa_cons pe_str (pa_cons pe_str (pa_cons pe_str (pa_cons pe_str (pa_cons pe_str (pa_cons pe_str (pa_cons pe_str (pa_cons pe_str (pa_cons (pe_op op_add_str pe_str (pe_op op_mul_str pe_str pe_int)) (pa_cons pe_str pa_nil))))))))))))))
      (C8.pss_cut (ps_if (pt_cmpR op_eq (pv 4) pe_int (nomark _)) (pss_one (ps_asg (pe_call GP hr (by rfl) gP FP.kp bP .nil pass0 (pa_cons (pv 0) (pa_cons (pv 5) pa_nil))) (pg_sub (pv 2) (pv 3) set_list))) pss_nil)
      (C8.pss_cut (ps_if (pt_cmpR op_eq (pv 4) pe_int (nomark _)) (pss_one (ps_expr (pe_bm PySem.F.plainAttrs_list PySem.F.slot_list_pop PySem.F.type_list_pop mt_popAt (pv 2) (pa_cons (pv 3) pa_nil)))) pss_nil)
      (C8.pss_cut (ps_if (pt_cmpR op_eq (pv 4) pe_int (nomark _)) (pss_one (ps_expr (pe_bm PySem.F.plainAttrs_list PySem.F.slot_list_insert PySem.F.type_list_insert mt_insert (pv 2) (pa_cons (pv 3) (pa_cons (pe_call GP hr (by rfl) gP FP.kp bP .nil pass0 (pa_cons (pv 0) (pa_cons (pv 5) pa_nil))) pa_nil))))) pss_nil)
      (C8.pss_cut (ps_if (pt_cmpR op_eq (pv 4) pe_int (nomark _)) (pss_one (ps_expr (pe_bm PySem.F.plainAttrs_list PySem.F.slot_list_append PySem.F.type_list_append mt_append (pv 2) (pa_cons (pe_call GP hr (by rfl) gP FP.kp bP .nil pass0 (pa_cons (pv 0) (pa_cons (pe_lst (pa_cons pe_str (pa_cons pe_str (pa_cons pe_str (pa_cons pe_str pa_nil))))) pa_nil))) pa_nil)))) pss_nil)
      (C8.pss_cut (ps_if (pt_cmpR op_eq (pv 4) pe_int (nomark _)) (pss_one (ps_set (i := 2) scBent.nd rfl (.inr rfl) (pe_slice sl_list (pv 2) po_none (po_some (pv 3))))) pss_nil)
      (C8.pss_cut (ps_setLc (i := 6) (own := [("_law_k", 8)]) (g := gName 8) rfl scBent.nd rfl rfl (sw_true rfl rfl rfl (by decide +kernel)) (pi_range1 (by rfl) mr (pa_cons (pe_callB call_len_seq (by rfl) ml PySem.boot_len (pa_cons (pv 2) pa_nil)) pa_nil)) (blkOk_by (N := bentN) (sc := defScope sBent) (by decide +kernel))
        (fun _ _ _ _ _ => pg_name (i := 8) scBent.nd rfl (Or.inl rfl)) (fun _ _ _ _ _ => pts_one (pt_cmpR (insK (K := K) rfl) (pe_ix (ixl (K := K) rfl) (pv 2) (pv 8) (fun _ _ => rfl)) (pe_tup (pa_cons pe_str (pa_cons pe_str pa_nil))) (by rfl))) (fun _ _ _ _ _ => pv 8))
      (C8.pss_cut (ps_if (PW.pt (pw_and (pt_cmpR op_gt (pv 4) pe_int (nomark _)) (pw_and1 (pt_cmpR (op_neNil hr.units0) (pv 6) (pe_lst pa_nil) (nomark _))))) (pss_one (ps_asg (pe_call GP hr (by rfl) gP FP.kp bP .nil pass0 (pa_cons (pv 0) (pa_cons (pe_lst (pa_cons pe_str (pa_cons pe_str (pa_cons pe_str pa_nil)))) pa_nil))) (pg_sub (pv 2) (pe_call GP hr (by rfl) gP FP.kp bP .nil pass0 (pa_cons (pv 0) (pa_cons (pv 6) pa_nil))) set_list))) pss_nil)
      (pss_cons (ps_set (i := 7) scBent.nd rfl (.inl rfl) (pe_join pe_str (pv 2)))
      (pss_one (ps_ret (pe_ifExp (pt_cmpR op_gt (pe_call GD hr1 (by rfl) gD FD.kp bD .nil pass0 (pa_cons (pv 0) (pa_cons pe_int pa_nil))) pe_int (nomark _)) (pv 7) (pe_op op_add_str (pv 7) (pe_call GP hr (by rfl) gP FP.kp bP .nil pass0 (pa_cons (pv 0) (pa_cons (pe_lst (pa_cons pe_str (pa_cons pe_str (pa_cons pe_str pa_nil)))) pa_nil))))))))))))))))), ?_⟩
    have hws1 : 1 ≤ (Txt.split z " ").length := split_one z
    have hwa : ∀ x ∈ Txt.split z " ", asc x := fun x hx => split_asc hL.2 hx
    have hwn : (Txt.split z " ").length ≤ 932 := Nat.le_trans (split_le z " ") (by have := hL.1; omega)
    have hws : wsum (Txt.split z " ") ≤ L + 1 := Nat.le_trans (split_weight2 z) (Nat.add_le_add_right hL.1 1)
    refine ⟨_, rfl, ⟨_, rfl⟩, _, _, rfl, rfl, by decide, Nat.le_trans (Nat.add_le_add_right hL.1 2) (Nat.le_trans (by omega : L + 2 ≤ 932) (by decide)), fun a ha => ?_⟩
    have s1 := same_upd0 (o := .lst ((Txt.split z " ").map V.str)) ha
    have nap : a ≠ p := (ne_of_none hp.pen ha).symm
    have nal : a ≠ l := (ne_of_none hp.cells ha).symm
    have pen1 := Pen.upd (o := .lst ((Txt.split z " ").map V.str)) hp nap nal
    have off1 : Off p H (L2.upd H a (.lst ((Txt.split z " ").map V.str))) := Off.over Off.refl ha
    have a1 : (L2.upd H a (.lst ((Txt.split z " ").map V.str))) a = some (.lst ((Txt.split z " ").map V.str)) := upd_same
    revert pen1 off1 a1
    generalize L2.upd H a (.lst ((Txt.split z " ").map V.str)) = H1
    intro pen1 off1 a1
    refine ⟨_, rfl, _, rfl, a, _, rfl, .inl (SqL.of a1), p, l, ns, n, g, _, rfl, pen1, by omega, ?_, ?_, fun d n2 g2 H2 d0 d1 hn2 off2 pen2 => ?_⟩
    rotate_left 2
    rw [List.length_map] at d1
    have a2 := off2 _ _ nap a1
    refine ⟨_, rfl, p, l, ns, n2, g2, _, rfl, pen2, by omega, by decide, by decide, fun w n4 g4 H4 w0 w1 hn4 off4 pen4 => ⟨_, _, rfl, ?_⟩⟩
    have a4 := off4 _ _ nap a2
    have off3 := (off1.trans off2).trans off4
    clear off1 off2 off4 a1 a2 pen1 pen2 s1
    refine ⟨_, _, rfl, rfl, mul_ok, _, _, rfl, rfl, by decide +kernel, by show 12 ≤ sizeLine; decide, fun o ho => ?_⟩
    have k3 : Same H4 (L2.upd H4 o (.lst odds1)) ∧ H4 o = none ∧ (L2.upd H4 o (.lst odds1)) o = some (.lst (odds.map V.str)) := ⟨same_upd0 ho, ho, upd_same⟩
    revert k3
    generalize L2.upd H4 o (.lst odds1) = H3
    rintro ⟨sO, no, o3⟩
    have nop : o ≠ p := (ne_of_none pen4.pen no).symm
    have noa : o ≠ a := (ne_of_none a4 no).symm
    have pen3 : Pen H3 p l ns n4 g4 := ⟨sO _ _ pen4.pen, sO _ _ pen4.cells, pen4.left⟩
    have a3 := sO _ _ a4
    have off5 : Off p H H3 := off3.trans fun b u _ e => sO b u e
    clear ho sO no
    have m0 : Mid p l o ns n z L w d H 0 (St9 p a o z d w none) H3 :=
      ⟨a, rfl, ha, nap, nal, noa, off5, o3, _, n4, g4, a3, pen3, by omega, .inr ⟨w0, rfl, by omega⟩⟩
    clear o3 a3 off3 pen4 pen3 a4 off5 hp nap nal noa ha
    have step : ∀ {k : Int} {σ' : L2.St} {G : Hp}, Mid p l o ns n z L w d H k σ' G → ¬ w = k → Mid p l o ns n z L w d H (k + 1) σ' G := by
      rintro k σ' G ⟨a, e0, ha, h1, h2, h3, e2, e3, ws, n', g', e4, e5, e6, e7⟩ hne
      refine ⟨a, e0, ha, h1, h2, h3, e2, e3, ws, n', g', e4, e5, e6, ?_⟩
      rcases e7 with ⟨h1, h2⟩ | ⟨h1, h2⟩
      · exact .inl ⟨by omega, h2⟩
      · exact .inr ⟨by omega, h2⟩
    obtain ⟨j, rfl⟩ : ∃ j : Nat, d = j := ⟨d.toNat, by omega⟩
    have hj : j < (Txt.split z " ").length := by omega
    -- the picked word
    have pickL : ∀ {xs : List Str} {a q : Addr} {G : Hp} {n' : Nat} {g' : Int} {R : VK}, 0 < xs.length → xs.length ≤ 1000 → q ≠ p → G q = some (.lst (xs.map V.str)) → a ≠ p → Off p H G → G o = some (.lst (odds.map V.str)) → G a = some (.lst ((Txt.split z " ").map V.str)) → Pen G p l ns n' g' → n' ≤ n + 2 →
        (∀ (x : Str) (n5 : Nat) (g5 : Int) (G' : Hp), x ∈ xs → Off p H G' → G' o = some (.lst (odds.map V.str)) → G' a = some (.lst ((Txt.split z " ").map V.str)) → Pen G' p l ns n5 g5 → n5 ≤ n + 3 → R (.str x) G') →
        ∀ E', spPick K [.ref p, .ref q] G R E' := by
      intro xs a q G n' g' R hx0 hx1 hqp hq hap e2 e3 e4 e5 e6 k E'
      refine ⟨p, l, ns, n', g', _, rfl, e5, by omega, .inl ⟨q, _, rfl, hqp, hq, by rw [List.length_map]; exact hx0, by rw [List.length_map]; exact hx1, fun v n5 g5 H5 hv hn5 off5 pen5 => ?_⟩⟩
      obtain ⟨x, hx, rfl⟩ := List.mem_map.mp hv
      exact k x n5 g5 H5 hx (e2.trans off5) (off5 _ _ nop e3) (off5 _ _ hap e4) pen5 (by omega)
    have fresh : ∀ {a q : Addr} {G : Hp} {xs : List Str} {n' : Nat} {g' : Int}, G q = none → Off p H G → G o = some (.lst (odds.map V.str)) → G a = some (.lst ((Txt.split z " ").map V.str)) → Pen G p l ns n' g' →
        q ≠ p ∧ L2.upd G q (.lst (xs.map V.str)) q = some (.lst (xs.map V.str)) ∧ Off p H (L2.upd G q (.lst (xs.map V.str))) ∧ L2.upd G q (.lst (xs.map V.str)) o = some (.lst (odds.map V.str)) ∧ L2.upd G q (.lst (xs.map V.str)) a = some (.lst ((Txt.split z " ").map V.str)) ∧ Pen (L2.upd G q (.lst (xs.map V.str))) p l ns n' g' := by
      intro a q G xs n' g' hq e2 e3 e4 e5
      have s := same_upd0 (o := .lst (xs.map V.str)) hq
      exact ⟨(ne_of_none e5.pen hq).symm, upd_same, e2.trans fun b u _ e => s b u e, s _ _ e3, s _ _ e4, ⟨s _ _ e5.pen, s _ _ e5.cells, e5.left⟩⟩
    have here : ∀ {k : Int} {σ' : L2.St} {G : Hp}, Mid p l o ns n z L w j H k σ' G → w = k → ∃ a, σ' = (St9 p a o z j w none) ∧ H a = none ∧ a ≠ p ∧ a ≠ l ∧ o ≠ a ∧ Off p H G ∧ G o = some (.lst (odds.map V.str)) ∧ ∃ (n' : Nat) (g' : Int), G a = some (.lst ((Txt.split z " ").map V.str)) ∧ Pen G p l ns n' g' ∧ n' ≤ n + 2 := by
      rintro k σ' G ⟨a, e0, ha, h1, h2, h3, e2, e3, ws, n', g', e4, e5, e6, e7⟩ he
      rcases e7 with ⟨h1, _⟩ | ⟨_, rfl, h4⟩
      · omega
      · exact ⟨a, e0, ha, h1, h2, h3, e2, e3, n', g', e4, e5, h4⟩
    have shape : ∀ {k : Int} {σ' : L2.St} {G : Hp}, Mid p l o ns n z L w j H k σ' G → ∃ a, σ' = (St9 p a o z j w none) := fun h => h.elim fun a e => ⟨a, e.1⟩
    have small' : ∀ {xs : List Str} {x : Str}, (∀ o ∈ xs, small o = true) → x ∈ xs → x.length ≤ 32 ∧ asc x := fun h hx => small_of (h _ hx)
    refine ⟨Mid p l o ns n z L w j H 1, ?_, ?_⟩
    · refine ⟨_, rfl, rfl, _, rfl, ite2 (fun c => ?_) (fun c => step m0 (fun e => c (decide_eq_true (by rw [e]))))⟩
      have ew : w = 0 := V.int.inj (of_decide_eq_true c)
      obtain ⟨a', es, na, nap, nal, noa, e2, e3, n', g', e4, e5, e6⟩ := here m0 ew
      obtain rfl := St9_a es
      refine ⟨_, rfl, _, rfl, pickL (by decide) (by decide) nop e3 nap e2 e3 e4 e5 e6 (fun x n5 g5 G hx off o5 a5 pen5 hn5 => ?_) E0⟩
      obtain ⟨x1, x2⟩ := small' odds_ok hx
      refine ⟨_, rfl, _, rfl, a, _, _, j, rfl, rfl, a5, ixN_nat' (by rw [List.length_map]; exact hj), ?_⟩
      refine ⟨a, rfl, na, nap, nal, noa, off.over na, (upd_ne noa).trans o5, (Txt.split z " ").set j x, n5, g5, ?_, Pen.upd pen5 nap nal, hn5, .inl ⟨by omega, ?_, ?_⟩⟩
      · rw [upd_same, List.map_set]
      · have := wsum_set (ws := Txt.split z " ") (i := j) x1
        omega
      · intro y hy
        rcases List.mem_or_eq_of_mem_set hy with h | h
        · exact hwa y h
        · rw [h]
          exact x2
    intro σ1 G1 m1
    obtain ⟨a, es⟩ := shape m1
    subst es
    refine ⟨Mid p l o ns n z L w j H 2, ?_, ?_⟩
    · refine ⟨_, rfl, rfl, _, rfl, ite2 (fun c => ?_) (fun c => step m1 (fun e => c (decide_eq_true (by rw [e]))))⟩
      have ew : w = 1 := V.int.inj (of_decide_eq_true c)
      obtain ⟨a', es, na, nap, nal, noa, e2, e3, n', g', e4, e5, e6⟩ := here m1 ew
      obtain rfl := St9_a es
      obtain ⟨hlt, _⟩ : j < ((Txt.split z " ").map V.str).length ∧ True := ⟨by rw [List.length_map]; exact hj, trivial⟩
      refine ⟨_, rfl, .inl ⟨rfl, _, SqL.of e4⟩, _, rfl, a, _, _, j, _, rfl, rfl, e4, by omega, by omega, seqIndex_of (by omega) (by omega), List.getElem?_eq_getElem hlt, ?_⟩
      refine ⟨a, rfl, na, nap, nal, noa, e2.over na, (upd_ne noa).trans e3, (Txt.split z " ").eraseIdx j, n', g', ?_, Pen.upd e5 nap nal, by omega, .inl ⟨by omega, ?_, ?_⟩⟩
      · rw [upd_same, map_erase]
      · have := wsum_erase (ws := Txt.split z " ") (i := j)
        omega
      · intro y hy
        exact hwa y (List.mem_of_mem_eraseIdx hy)
    intro σ2 G2 m2
    obtain ⟨a, es⟩ := shape m2
    subst es
    refine ⟨Mid p l o ns n z L w j H 3, ?_, ?_⟩
    · refine ⟨_, rfl, rfl, _, rfl, ite2 (fun c => ?_) (fun c => step m2 (fun e => c (decide_eq_true (by rw [e]))))⟩
      have ew : w = 2 := V.int.inj (of_decide_eq_true c)
      obtain ⟨a', es, na, nap, nal, noa, e2, e3, n', g', e4, e5, e6⟩ := here m2 ew
      obtain rfl := St9_a es
      refine ⟨_, rfl, .inl ⟨rfl, _, SqL.of e4⟩, _, rfl, _, rfl, _, rfl, pickL (by decide) (by decide) nop e3 nap e2 e3 e4 e5 e6 (fun x n5 g5 G hx off o5 a5 pen5 hn5 => ?_) E0⟩
      obtain ⟨x1, x2⟩ := small' odds_ok hx
      refine ⟨a, _, _, _, rfl, rfl, a5, ?_, by omega, by omega, ?_⟩
      · rw [List.length_map]
        exact Nat.lt_of_le_of_lt hwn (by decide)
      refine ⟨a, rfl, na, nap, nal, noa, off.over na, (upd_ne noa).trans o5, (Txt.split z " ").take j ++ [x] ++ (Txt.split z " ").drop j, n5, g5, ?_, Pen.upd pen5 nap nal, hn5, .inl ⟨by omega, ?_, ?_⟩⟩
      · rw [upd_same, List.map_append, List.map_append, List.map_take, List.map_drop]
        rfl
      · have := wsum_ins (ws := Txt.split z " ") (i := j) x1
        omega
      · intro y hy
        rcases List.mem_append.mp hy with h | h
        · rcases List.mem_append.mp h with h | h
          · exact hwa y (List.mem_of_mem_take h)
          · rw [List.mem_singleton.mp h]
            exact x2
        · exact hwa y (List.mem_of_mem_drop h)
    intro σ3 G3 m3
    obtain ⟨a, es⟩ := shape m3
    subst es
    refine ⟨Mid p l o ns n z L w j H 4, ?_, ?_⟩
    · refine ⟨_, rfl, rfl, _, rfl, ite2 (fun c => ?_) (fun c => step m3 (fun e => c (decide_eq_true (by rw [e]))))⟩
      have ew : w = 3 := V.int.inj (of_decide_eq_true c)
      obtain ⟨a', es, na, nap, nal, noa, e2, e3, n', g', e4, e5, e6⟩ := here m3 ew
      obtain rfl := St9_a es
      refine ⟨_, rfl, .inl ⟨rfl, _, SqL.of e4⟩, _, rfl, by show 4 ≤ sizeLine; decide, fun o4 h4 => ?_⟩
      obtain ⟨f1, f2, f3, f4, f5, f6⟩ := fresh (xs := addsA) h4 e2 e3 e4 e5
      refine pickL (xs := addsA) (by decide) (by decide) f1 f2 nap f3 f4 f5 f6 e6 (fun x n5 g5 G hx off o5 a5 pen5 hn5 => ?_) E0
      obtain ⟨x1, x2⟩ := small' addsA_ok hx
      refine ⟨a, _, _, rfl, rfl, a5, ?_, ?_⟩
      · rw [List.length_map]
        exact Nat.lt_of_le_of_lt hwn (by decide)
      refine ⟨a, rfl, na, nap, nal, noa, off.over na, (upd_ne noa).trans o5, Txt.split z " " ++ [x], n5, g5, ?_, Pen.upd pen5 nap nal, by omega, .inl ⟨by omega, ?_, ?_⟩⟩
      · rw [upd_same, List.map_append]
        rfl
      · rw [wsum_app]
        have : wsum [x] = x.length + 1 := by simp [wsum]
        omega
      · intro y hy
        rcases List.mem_append.mp hy with h | h
        · exact hwa y h
        · rw [List.mem_singleton.mp h]
          exact x2
    intro σ4 G4 m4
    obtain ⟨a, es⟩ := shape m4
    subst es
    refine ⟨Mid p l o ns n z L w j H 5, ?_, ?_⟩
    · refine ⟨_, rfl, rfl, _, rfl, ite2 (fun c => ?_) (fun c => step m4 (fun e => c (decide_eq_true (by rw [e]))))⟩
      have ew : w = 4 := V.int.inj (of_decide_eq_true c)
      obtain ⟨a', es, na, nap, nal, noa, e2, e3, n', g', e4, e5, e6⟩ := here m4 ew
      obtain rfl := St9_a es
      refine ⟨_, rfl, _, rfl, _, rfl, a, _, rfl, SqL.of e4, fun q hq => ?_⟩
      rw [cut_take _ _ (by rw [List.length_map]; omega)]
      have s := same_upd0 (o := .lst (((Txt.split z " ").map V.str).take j)) hq
      refine ⟨q, rfl, off_none e2 hq (ne_of_none e5.pen hq).symm, (ne_of_none e5.pen hq).symm, (ne_of_none e5.cells hq).symm, (ne_of_none e3 hq), e2.trans (fun b u _ e => s b u e), s _ _ e3, (Txt.split z " ").take j, n', g', ?_, ⟨s _ _ e5.pen, s _ _ e5.cells, e5.left⟩, by omega, .inl ⟨by omega, ?_, ?_⟩⟩
      · rw [upd_same, List.map_take]
      · have := wsum_take (Txt.split z " ") j
        omega
      · intro y hy
        exact hwa y (List.mem_of_mem_take hy)
    rintro σ5 G5 ⟨a, rfl, na, nap, nal, noa, off, e3, ws, n', g', e4, e5, e6, e7⟩
    have hw : wsum ws ≤ L + 34 ∧ (∀ x ∈ ws, asc x) := by
      rcases e7 with ⟨_, h⟩ | ⟨_, rfl, _⟩
      · exact h
      · exact ⟨by omega, hwa⟩
    have hwn2 := wsum_len ws
    -- where "done" and "none" stand
    refine ⟨fun σ' G => ∃ (e : Addr) (ks : List Nat), σ' = St9 p a o z j w (some (.ref e)) ∧ Same G5 G ∧ e ≠ a ∧ e ≠ p ∧ G e = some (.lst (ks.map fun (k : Nat) => V.int (k : Nat))) ∧ ks.length ≤ ws.length ∧ ∀ k ∈ ks, k < ws.length, ?_, ?_⟩
    · refine ⟨_, rfl, a, _, rfl, .inl (SqL.of e4), _, rfl, by rw [List.length_map]; omega, by rw [List.length_map]; omega, fun D hD => ?_⟩
      have s0 := same_upd0 (o := .lst []) hD
      have nDa : D ≠ a := (ne_of_none e4 hD).symm
      have nDp : D ≠ p := (ne_of_none e5.pen hD).symm
      refine lc_it (walk_range (lo := 0) (n := (((ws.map V.str).length : Nat) : Int).toNat)) (fun i G => ∃ ks : List Nat, G D = some (.lst (ks.map fun (k : Nat) => V.int (k : Nat))) ∧ Same G5 G ∧ ks.length ≤ i ∧ ∀ k ∈ ks, k < ws.length) ⟨[], upd_same, s0, Nat.zero_le _, fun _ h => nomatch h⟩ (fun _ _ _ _ => trivial) ?_ ?_
      · rintro i x G1 G2 hi ⟨ks, hD1, s1, hl1, hk1⟩ ⟨rfl, rfl⟩
        rw [List.length_map] at hi
        have hlt : i < ws.length := by omega
        have hwi : (ws.map V.str)[i]? = some (V.str ws[i]) := by rw [List.getElem?_map, List.getElem?_eq_getElem hlt]; rfl
        simp only [Int.zero_add]
        refine ⟨rfl, _, rfl, _, rfl, a, _, _, _, rfl, rfl, SqL.of (s1 _ _ e4), atI_nat (j := i) hwi, by show 2 ≤ sizeLine; decide, fun t ht => ⟨t, _, rfl, .inr (SqT.of upd_same), rfl, rfl, ?_⟩⟩
        have st := same_upd0 (o := .tup [.str "done", .str "none"]) ht
        refine ⟨_, rfl, ite2 (fun c => ?_) (fun c => ?_)⟩
        · refine ⟨_, rfl, _, st _ _ hD1, ?_, ks ++ [i], ?_, Same.over (s1.trans st) hD, ?_, ?_⟩
          · rw [List.length_map]
            exact Nat.lt_of_le_of_lt (show ks.length ≤ 1200 by omega) (by decide)
          · rw [upd_same, List.map_append]
            rfl
          · rw [List.length_append]
            show ks.length + 1 ≤ i + 1
            omega
          · intro k hk
            rcases List.mem_append.mp hk with h | h
            · exact hk1 k h
            · rw [List.mem_singleton.mp h]
              exact hlt
        · exact ⟨ks, st _ _ hD1, s1.trans st, by omega, hk1⟩
      · rintro G1 ⟨ks, hD1, s1, hl1, hk1⟩
        refine ⟨D, ks, rfl, s1, nDa, nDp, hD1, ?_, hk1⟩
        rw [List.length_map] at hl1
        omega
    rintro σ6 G6 ⟨e, ks, rfl, s6, nea, nep, he6, hkl, hks⟩
    have a6 := s6 _ _ e4
    have o6 := s6 _ _ e3
    have pen6 := pen_same e5 s6
    have off6 : Off p H G6 := off.trans fun b u _ h => s6 b u h
    refine ⟨fun σ' G => σ' = St9 p a o z j w (some (.ref e)) ∧ Off p H G ∧ ∃ (ws' : List Str) (n2 : Nat) (g2 : Int), G a = some (.lst (ws'.map V.str)) ∧ Pen G p l ns n2 g2 ∧ n2 ≤ n + 4 ∧ wsum ws' ≤ L + 34 ∧ ∀ x ∈ ws', asc x, ?_, ?_⟩
    · have stay : ∀ G', Same G6 G' → (St9 p a o z j w (some (.ref e)) = St9 p a o z j w (some (.ref e)) ∧ Off p H G' ∧ ∃ (ws' : List Str) (n2 : Nat) (g2 : Int), G' a = some (.lst (ws'.map V.str)) ∧ Pen G' p l ns n2 g2 ∧ n2 ≤ n + 4 ∧ wsum ws' ≤ L + 34 ∧ ∀ x ∈ ws', asc x) := fun G' s' => ⟨rfl, off6.trans fun b u _ h => s' b u h, ws, n', g', s' _ _ a6, pen_same pen6 s', by omega, hw.1, hw.2⟩
      refine ⟨_, rfl, _, _, rfl, rfl, _, rfl, ite2 (fun c => ?_) (fun c => iteF (stay G6 (Same.refl _)))⟩
      have w5 : 4 < w := of_decide_eq_true c
      refine ⟨_, rfl, Nat.zero_le _, fun b hb => ⟨e, b, _, rfl, rfl, SqL.of (same_upd0 hb _ _ he6), SqL.of upd_same, _, rfl, ?_⟩⟩
      have sb := same_upd0 (o := .lst []) hb
      cases hke : ks with
      | nil => exact iteF (stay _ sb)
      | cons k0 kr =>
        rw [← hke]
        obtain ⟨_, ews, hn2⟩ : 5 ≤ w ∧ ws = Txt.split z " " ∧ n' ≤ n + 2 := by
          rcases e7 with ⟨h, _⟩ | h
          · omega
          · exact h
        have hws0 : wsum ws ≤ L + 1 := by rw [ews]; exact hws
        have hk0 : 0 < ks.length := by rw [hke]; exact Nat.succ_pos _
        rw [show (!(List.map (fun (k : Nat) => V.int (k : Nat)) ks).isEmpty) = true by rw [hke]; rfl]
        refine iteT ⟨_, rfl, by show 3 ≤ sizeLine; decide, fun o4 h4 => ?_⟩
        have s7 := sb.trans (same_upd0 (o := .lst (addsB.map V.str)) h4)
        have n4p : o4 ≠ p := (ne_of_none (sb _ _ pen6.pen) h4).symm
        refine ⟨p, l, ns, n', g', _, rfl, pen_same pen6 s7, by omega, .inl ⟨o4, addsB.map V.str, rfl, n4p, upd_same, by decide, by decide, fun v n5 g5 H5 hv hn5 off5 pen5 => ?_⟩⟩
        obtain ⟨x, hx, rfl⟩ := List.mem_map.mp hv
        obtain ⟨x1, x2⟩ := small' addsB_ok hx
        have a7 := off5 _ _ nap (s7 _ _ a6)
        have e7' := off5 _ _ nep (s7 _ _ he6)
        refine ⟨_, rfl, _, rfl, _, rfl, p, l, ns, n5, g5, _, rfl, pen5, by omega, .inl ⟨e, _, rfl, nep, e7', by rw [List.length_map]; exact hk0, by rw [List.length_map]; omega, fun v n8 g8 H8 hv hn8 off8 pen8 => ?_⟩⟩
        obtain ⟨k, hk, rfl⟩ := List.mem_map.mp hv
        have a8 := off8 _ _ nap a7
        refine ⟨a, _, _, k, rfl, rfl, a8, ixN_nat' (by rw [List.length_map]; exact hks k hk), ?_⟩
        refine ⟨rfl, (((off6.trans fun b u _ h => s7 b u h).trans off5).trans off8).over na, ws.set k x, n8, g8, ?_, Pen.upd pen8 nap nal, by omega, ?_, ?_⟩
        · rw [upd_same, List.map_set]
        · have := wsum_set (ws := ws) (i := k) x1
          omega
        · intro y hy
          rcases List.mem_or_eq_of_mem_set hy with h | h
          · exact hw.2 y h
          · rw [h]
            exact x2
    rintro σ7 G7 ⟨rfl, off7, ws', n2, g2, a7, pen7, hn7, hw7, hw8⟩
    have hLin : Lin (L + 34) (Txt.join " " ws') := Lin.join hw7 hw8
    refine ⟨⟨_, rfl⟩, _, rfl, _, a, ws', rfl, rfl, .inl (SqL.of a7), ?_, ?_⟩
    · have h1 : (ws'.map (·.length)).sum + ws'.length ≤ L + 34 := hw7
      have h2 : (" " : Str).length = 1 := by decide
      rw [h2]
      omega
    refine ⟨_, rfl, p, l, ns, n2, g2, _, rfl, pen7, by omega, by decide, by decide, fun dw n9 g9 H9 _ _ hn9 off9 pen9 => ⟨_, _, rfl, rfl, _, rfl, ite2 (fun _ => ?_) (fun c => ?_)⟩⟩
    · exact ⟨_, rfl, q _ n9 g9 H9 ⟨by have := hLin.1; omega, hLin.2⟩ (by omega) (off7.trans off9) pen9⟩
    · refine ⟨_, rfl, _, rfl, by show 3 ≤ sizeLine; decide, fun o4 h4 => ?_⟩
      have s7 := same_upd0 (o := .lst (addsC.map V.str)) h4
      have n4p : o4 ≠ p := (ne_of_none pen9.pen h4).symm
      refine ⟨p, l, ns, n9, g9, _, rfl, pen_same pen9 s7, by omega, .inl ⟨o4, addsC.map V.str, rfl, n4p, upd_same, by decide, by decide, fun v n5 g5 H5 hv hn5 off5 pen5 => ?_⟩⟩
      obtain ⟨x, hx, rfl⟩ := List.mem_map.mp hv
      have hx2 := (addsC_ok x hx).2
      obtain ⟨x1, x2⟩ := small_of (addsC_ok x hx).1
      have h1 := hLin.1
      refine ⟨_, _, rfl, rfl, ?_, q _ n5 g5 _ ⟨?_, asc_app hLin.2 x2⟩ (by omega) (((off7.trans off9).trans fun b u _ h => s7 b u h).trans off5) pen5⟩
      · exact Nat.le_trans (Nat.add_le_add h1 hx2) (Nat.le_trans (by omega : L + 34 + 5 ≤ 1000) (by decide))
      · rw [PySem.Str.length_append]
        omega
    · rw [List.length_map]
      omega
    · rw [List.length_map]
      have : ((((Txt.split z " ").length : Nat) : Int)).natAbs = (Txt.split z " ").length := Int.natAbs_natCast _
      rw [this]
      exact Nat.lt_of_le_of_lt hwn (by decide)
end
end K81

namespace K81
open PySem PySem.Spec PyProof.Rows L2 So TL
/-! ### a plan's text -/
theorem none_ok : (32 ∉ tl ("none" : Str) ∧ 10 ∉ tl ("none" : Str)) ∧ asc ("none" : Str) := ⟨by decide +kernel, (small_of (o := "none") (by decide +kernel)).2⟩
theorem done_ok : (32 ∉ tl ("done" : Str) ∧ 10 ∉ tl ("done" : Str)) ∧ asc ("done" : Str) := ⟨by decide +kernel, (small_of (o := "done") (by decide +kernel)).2⟩
theorem e5_ok {z y : Str} {m : Int} (h : EOk z m y) : ∀ p ∈ E5 z m y, (32 ∉ tl p ∧ 10 ∉ tl p) ∧ asc p := by
  intro p hp
  refine ⟨ent_parts h.z h.m h.y p hp, ?_⟩
  unfold E5 at hp
  simp only [List.mem_cons, List.not_mem_nil, or_false] at hp
  rcases hp with h1 | h1 | h1 | h1 | h1 <;> subst h1
  · exact (small_of (o := "check") (by decide +kernel)).2
  · exact name_small h.z
  · exact (num_of h.m).2.2.2.1
  · exact (small_of (o := "by") (by decide +kernel)).2
  · exact name_small h.y
theorem ws_ok : ∀ {pl : Pl}, pl.Ok → ∀ p ∈ pl.ws, (32 ∉ tl p ∧ 10 ∉ tl p) ∧ asc p
  | .none, _, p, hp => by
    rw [show p = ("none" : Str) from List.mem_singleton.mp hp]
    exact none_ok
  | .done, _, p, hp => by
    rw [show p = ("done" : Str) from List.mem_singleton.mp hp]
    exact done_ok
  | .ask z m y a b, ⟨h, _, ha, hb⟩, p, hp => by
    have hp : p ∈ E5 z m y ++ (a.ws ++ b.ws) := hp
    rcases List.mem_append.mp hp with h1 | h1
    · exact e5_ok h p h1
    · rcases List.mem_append.mp h1 with h2 | h2
      · exact ws_ok ha p h2
      · exact ws_ok hb p h2
theorem join_app {xs ys : List Str} (hx : xs ≠ []) (hy : ys ≠ []) : Txt.join " " (xs ++ ys) = Txt.join " " xs ++ (" " : Str) ++ Txt.join " " ys := by
  refine ext_tl ?_
  rw [tl_append, tl_append, join_eq, join_eq, join_eq, tl_join, tl_join, tl_join, List.map_append]
  have key : ∀ (a b : List (List Nat)), a ≠ [] → b ≠ [] → joinL (tl (" " : Str)) (a ++ b) = joinL (tl (" " : Str)) a ++ tl (" " : Str) ++ joinL (tl (" " : Str)) b := by
    intro a b ha hb
    induction a with
    | nil => exact absurd rfl ha
    | cons x r ih =>
      cases r with
      | nil =>
        cases b with
        | nil => exact absurd rfl hb
        | cons y s => simp [joinL]
      | cons x2 r2 =>
        have := ih (by simp)
        simp only [List.cons_append, joinL] at this ⊢
        rw [this]
        simp [List.append_assoc]
  exact key _ _ (by simpa using hx) (by simpa using hy)
theorem txt_join : ∀ {pl : Pl}, pl.Ok → pl.txt = Txt.join " " pl.ws
  | .none, _ => by
    refine ext_tl ?_
    rw [join_eq, tl_join]
    rfl
  | .done, _ => by
    refine ext_tl ?_
    rw [join_eq, tl_join]
    rfl
  | .ask z m y a b, ⟨h, _, ha, hb⟩ => by
    have e : (Pl.ask z m y a b).ws = E5 z m y ++ (a.ws ++ b.ws) := rfl
    rw [e, join_app (by simp [E5]) (by simp [ws_ne]), join_app (ws_ne a) (ws_ne b), ← txt_join ha, ← txt_join hb]
    have e2 : Txt.join " " (E5 z m y) = entText z m y := (ent_join z m y).symm
    rw [e2]
    show Str.empty ++ entText z m y ++ " " ++ a.txt ++ " " ++ b.txt = _
    refine ext_tl ?_
    have e3 : tl Str.empty = [] := rfl
    simp only [tl_append, e3, List.nil_append, List.append_assoc]
theorem txt_split {pl : Pl} (h : pl.Ok) : Txt.split pl.txt " " = pl.ws := by
  rw [txt_join h]
  exact TL.split_join (y := " ") (s := 32) (S := []) (by decide +kernel) (by decide +kernel) (ws_ne pl) fun p hp => (ws_ok h p hp).1.1
theorem txt_line {pl : Pl} (h : pl.Ok) : Txt.split pl.txt "\n" = [pl.txt] := by
  refine one_line fun hm => ?_
  rw [txt_join h, join_eq, tl_join] at hm
  rcases of_joinL hm with h1 | ⟨p, hp, h1⟩
  · revert h1
    decide +kernel
  · obtain ⟨q, hq, rfl⟩ := List.mem_map.mp hp
    exact (ws_ok h q hq).1.2 h1
/-- entries with short names -/
def Pl.Sh : Pl → Prop
  | .none => True
  | .done => True
  | .ask z _ y p f => z.length ≤ 5 ∧ y.length ≤ 5 ∧ p.Sh ∧ f.Sh
theorem ws_sum : ∀ {pl : Pl}, pl.Ok → pl.Sh → wsum pl.ws + 53 ≤ 58 * 2 ^ pl.depth
  | .none, _, _ => by decide +kernel
  | .done, _, _ => by decide +kernel
  | .ask z m y a b, ⟨h, _, ha, hb⟩, ⟨hz, hy, sa, sb⟩ => by
    have e : (Pl.ask z m y a b).ws = E5 z m y ++ (a.ws ++ b.ws) := rfl
    have h1 := ws_sum ha sa
    have h2 := ws_sum hb sb
    have h5 : wsum (E5 z m y) ≤ 53 := by
      have n5 := (num_of h.m).2.2.2.2
      have c1 : ("check" : Str).length = 5 := by decide
      have c2 : ("by" : Str).length = 2 := by decide
      unfold wsum E5
      simp only [List.map_cons, List.map_nil, List.sum_cons, List.sum_nil, List.length_cons, List.length_nil, c1, c2]
      omega
    rw [e, wsum_app, wsum_app]
    have hd : (Pl.ask z m y a b).depth = max a.depth b.depth + 1 := rfl
    rw [hd, Nat.pow_succ]
    have m1 : 2 ^ a.depth ≤ 2 ^ max a.depth b.depth := Nat.pow_le_pow_right (by decide) (Nat.le_max_left _ _)
    have m2 : 2 ^ b.depth ≤ 2 ^ max a.depth b.depth := Nat.pow_le_pow_right (by decide) (Nat.le_max_right _ _)
    omega
theorem txt_lin {pl : Pl} (h : pl.Ok) (s : pl.Sh) (d : pl.depth ≤ 4) : Lin 875 pl.txt := by
  have h1 := ws_sum h s
  have h2 : 2 ^ pl.depth ≤ 2 ^ 4 := Nat.pow_le_pow_right (by decide) d
  rw [txt_join h]
  exact Lin.join (by omega) fun p hp => (ws_ok h p hp).2
theorem due_txt {pl : Pl} (h : pl.Ok) (d : pl.depth ≤ 4) (n : pl ≠ .none) : dueOf pl.txt [] = .inr pl := by
  have hp := parse_ws pl [] [] 4 false h d (fun e => absurd e n)
  rw [List.nil_append, List.append_nil, ← txt_split h] at hp
  refine due_ok hp ?_ rfl
  rw [List.length_nil, Nat.zero_add]
  exact Nat.lt_irrefl _
theorem due_back {zz p0 : Str} {ps : List Str} {pl : Pl} (hs : Txt.split zz "\n" = p0 :: ps) (h : dueOf p0 ps = .inr pl) : pl.Ok ∧ pl.depth ≤ 4 ∧ pl ≠ .none ∧ pl.txt = zz := by
  unfold dueOf at h
  split at h
  · cases h
  · rename_i q e hp
    split at h
    · cases h
    · rename_i c
      split at h
      · rename_i hps
        cases h
        obtain ⟨ho, hd, hn, _, hle, hw⟩ := parse_of _ _ _ _ _ _ hp
        refine ⟨ho, hd, (fun z => by cases hn z), ?_⟩
        have ee : e = (Txt.split p0 " ").length := by omega
        rw [ee, List.take_length, List.drop_zero] at hw
        rw [txt_join ho, ← hw, join_eq]
        have e2 : Str.join " " (Txt.split p0 " ") = p0 := StrLaws.join_split p0 " "
        have e3 : Str.join "\n" (Txt.split zz "\n") = zz := StrLaws.join_split zz "\n"
        rw [hs, hps] at e3
        rw [e2, ← e3]
        refine ext_tl ?_
        rw [tl_join]
        rfl
      · cases h
theorem due_small {p0 : Str} {ps : List Str} {i n : Nat} (h : dueOf p0 ps = .inl (i, n)) (hl : p0.length ≤ 1015) : i ≤ 1 ∧ n ≤ 1022 := by
  have hwl : (Txt.split p0 " ").length ≤ 1017 := Nat.le_trans (split_le p0 " ") (by omega)
  unfold dueOf at h
  split at h
  · rename_i k hp
    cases h
    have := parse_err _ _ _ _ _ hp (Nat.zero_le _)
    omega
  · split at h
    · rename_i c
      cases h
      omega
    · split at h
      · cases h
      · cases h
        exact ⟨Nat.le_refl _, Nat.zero_le _⟩
theorem dT_ok2 : ∀ i ≤ 1, ∀ n ≤ 1022, (dT i n).showable = true ∧ (dT i n).depth ≤ 60 ∧ (dT i n).shown.length ≤ 100 := by decide +kernel
theorem pl_sh {T : Ents} (h : ∀ k, k < 3 → (T.z k).length ≤ 5 ∧ (T.y k).length ≤ 5) : ∀ {t : Tr}, t.Ok → (t.pl T).Sh
  | .none, _ => trivial
  | .done, _ => trivial
  | .node k l r, ⟨hk, _, hl, hr⟩ => ⟨(h k hk).1, (h k hk).2, pl_sh h hl, pl_sh h hr⟩
end K81

/-! f(k = v, ..): a def called by keywords alone -/
namespace So
open PySem PySem.Spec PyProof.Rows L2
section
variable {X : Cx} {CX : CXT} {k : Nat} {f : Addr} {fd : FuncData} {ps ks : List Str} {sp : Sp} {E : XK} {x : Str} {p pos : Pos} {kws : List Keyword} {tk : TA} {g : List Value → List Value → List Value} {gV : List V → List V → List V}
def tCallK0 (sp : Sp) (gV : List V → List V → List V) (m : Nat) (E : XK) (tk : TA) : TE := fun σ H Q => tk σ H fun zs H1 => zs.length = m ∧ sp (gV [] zs) H1 Q E
theorem pe_callK0 (F : FnOk X.prog X.w X.K X.mg X.base CX k f fd ps sp) (hr : Room k X.A) (hg : Gl X x) (hm : X.mg x = some (.ref f)) (hk : PySem.W.keepIn X.K (.ref f) = true) (hb : KBn X.K fd ps 0 ks g gV) (hx : Passes CX X E) (hkw : PK X kws tk)
    (hpl : (backToKw pos (keywordEach kws X.env)).any (·.1.isNone) = false := by rfl) (hall : (backToKw pos (keywordEach kws X.env)).all (·.1.isSome) = true := by rfl)
    (hdb : (x == ("__debug__" : Str)) = false := by decide) (hks : (backToKw pos (keywordEach kws X.env)).filterMap (·.1) = ks := by rfl) : PE X (.Call (.Name x p) [] kws pos) (tCallK0 sp gV ks.length E tk) := by
  refine ⟨fun pins s σ H Q I h => ?_⟩
  refine wpAny_Call_Name_kw (ld_glob I hg hm ?_ hdb)
  refine PySem.W.callWith_KW0 (h₀ := X.base) I.ok.mod.kin hk hall (thn (hkw.run pos pins s σ H _ I h) fun ws s2 ⟨zs, H2, I2, rz, hl, q⟩ => ⟨I2.kIn, ?_⟩) hpl
  rw [hks]
  have r2 := hb.rel (.nil : Vals [] []) rz
  have len : (g [] ws).length = ps.length := by rw [← r2.length]; exact F.len _ _ _ _ q
  refine wpAny_call (codeAny_mono (F.run X.A X.stack s2 H2 ⟨[], ks.zip ws⟩ (g [] ws) (gV [] zs) Q E hr I2.env0 (hb.to s2 [] ws I2.kIn rfl (rz.length.symm.trans hl)) r2 q) fun r s' hq => ?_)
  match r, hq with
  | .error e, hq => exact hx pins σ H2 s2 e s' I2 hq
  | .ok (.ret u), hq => exact I2.after hq
  | .ok .next, hq => exact hq.elim
  | .ok .brk, hq => exact hq.elim
  | .ok .cont, hq => exact hq.elim
end
end So

namespace K81
open PySem PySem.Spec PyProof.Rows L2 So TL
abbrev sLaw : Stmt := topS 70
abbrev lawN : List Str := ["_law_script", "_law_pen_here", "_law_turn", "_law_ticks", "_law_checks", "_law_made", "_law_page", "_law_again", "_law_bent_here", "_law_due_here", "_law_heard_here", "_law_thing", "_law_some"]
theorem scLaw : FnScope lawN ["_law_script"] (defScope sLaw) := ⟨rfl, rfl, rfl, by decide +kernel, rfl, by decide +kernel, by decide +kernel⟩
def kText {α : Type} : List α → List α → List α
  | [u], [w] => [u, w]
  | _, _ => []
def kPlan {α : Type} : List α → List α → List α
  | [], [u] => [u]
  | _, _ => []
theorem fnok_ex {P : Program} {w : World} {K : PySem.W.Frag} {mg : Str → Option Value} {base : Heap} {CX : CXT} {k : Nat} {f : Addr} {fd : FuncData} {ps : List Str} {α : Type} {sp : α → Sp} (F : ∀ x, FnOk P w K mg base CX k f fd ps (sp x)) :
    FnOk P w K mg base CX k f fd ps (fun vs H Q E => ∃ x, sp x vs H Q E) :=
  ⟨fun vs H Q E ⟨x, h⟩ => (F x).len vs H Q E h, fun A outer s H args us vs Q E hr he hb hv ⟨x, h⟩ => (F x).run A outer s H args us vs Q E hr he hb hv h⟩
/-- what the law's def reads -/
structure Env (K : PySem.W.Frag) (mg : Str → Option Value) (CE C : Addr) : Prop where
  W : Words K mg
  TE : Ent K mg CE
  T : Pln K mg C
  rng : mg "range" = none
  rpr : mg "repr" = none
  noT : ∀ t, t ∈ ["NoneType", "int", "bool", "list", "tuple", "dict"] → PySem.W.kitOne K (.type t) (.type "str") = some false
  noS : PySem.W.kitOne K (.ref C) (.type "str") = some false
theorem due_c1 : Txt.split ("" : Str) "\n" = [("" : Str)] ∧ dueOf "" [] = .inl (0, 0) := by decide +kernel
theorem due_c2 : Txt.split ("none" : Str) "\n" = [("none" : Str)] ∧ dueOf "none" [] = .inl (0, 0) := by decide +kernel
theorem due_c3 : Txt.split ("done done" : Str) "\n" = [("done done" : Str)] ∧ dueOf "done done" [] = .inl (0, 1) := by decide +kernel
theorem due_c4 : Txt.split ("done\n" : Str) "\n" = [("done" : Str), ""] ∧ dueOf "done" [""] = .inl (1, 0) := by decide +kernel
def dL : PyData := .list [dT 0 0, dT 0 0, dT 0 1, dT 1 0]
theorem dL_ok : dL.showable = true ∧ dL.depth ≤ 60 ∧ dL.shown.length ≤ sizeLine := by decide +kernel
/-- the law's entries -/
def tE (m0 m2 : Int) : Ents := ⟨fun k => if k = 0 then "a" else if k = 1 then "by" else "done", fun k => if k = 0 then m0 else if k = 1 then 1000000000000000000000000000000 else m2, fun k => if k = 0 then "b" else if k = 1 then "check" else "z9"⟩
theorem tE_sh (m0 m2 : Int) : ∀ k, k < 3 → ((tE m0 m2).z k).length ≤ 5 ∧ ((tE m0 m2).y k).length ≤ 5 := fun k hk => by
  match k, hk with
  | 0, _ => exact ⟨by show ("a" : Str).length ≤ 5; decide, by show ("b" : Str).length ≤ 5; decide⟩
  | 1, _ => exact ⟨by show ("by" : Str).length ≤ 5; decide, by show ("check" : Str).length ≤ 5; decide⟩
  | 2, _ => exact ⟨by show ("done" : Str).length ≤ 5; decide, by show ("z9" : Str).length ≤ 5; decide⟩
theorem EsAt.off {CE p : Addr} {T : Ents} {H H' : Hp} {a : Addr} {xs : List V} (h : EsAt CE T H a) (hp : H p = some (.lst xs)) (nl : a ≠ p) (s : Off p H H') : EsAt CE T H' a := by
  obtain ⟨e0, e1, e2, h, h0, h1, h2⟩ := h
  exact ⟨e0, e1, e2, s _ _ nl h, h0.off hp s, h1.off hp s, h2.off hp s⟩
theorem ownP {K : PySem.W.Frag} {mg : Str → Option Value} {CE C : Addr} {H : Hp} {v v' : V} {pl : Pl} {g : Bool → Bool} {Q : VK} {E : XK} (T : Pln K mg C) (A1 : PlAt CE C H v pl) (A2 : PlAt CE C H v' pl) (hn : pl ≠ .none) (hd : pl.depth ≤ 4) (h : Q (.bl (g true)) H) :
    rOwn C K (spPEq K CE C 4) E g v v' H Q := by
  obtain ⟨e, _⟩ | ⟨_, _, ⟨x, dx, fs, rfl, hx⟩, _⟩ := A1.ty T
  · exact absurd e hn
  obtain ⟨e, _⟩ | ⟨_, _, ⟨y, dy, fs', rfl, hy⟩, _⟩ := A2.ty T
  · exact absurd e hn
  exact ⟨x, dx, _, .ref C, rfl, hx, .base (.ins hy T.cl T.ha T.hn T.htk T.hm), T.nf, x, _, rfl, .inl ⟨_, A1, A2, hd, _, rfl, h⟩⟩
section
variable {P : Program} {w : World} {K : PySem.W.Frag} {mg : Str → Option Value} {base : Heap}
def spLaw (K : PySem.W.Frag) : Sp := fun vs H Q _ => ∃ (a : Addr) (ns : List Int), vs = [.ref a] ∧ SqL K H a (ns.map V.int) ∧ ∀ H', Q (.bl true) H'
theorem ok_law {CN CM CB CE C f fPen fD fP fH fI fE fS fBe fDu fR pR fTr fPl fPt : Addr} {mc : Value} {fd fdPen fdD fdP fdH fdI fdE fdS fdBe fdDu fdR fdTr fdPl fdPt : FuncData} (F : Fun K "law" "law" sLaw f fd) (N : Env K mg CE C)
    (FPen : Fun K "_law_pen" "_law_pen" sPen fPen fdPen) (bPen : Binds K fdPen ["_law_script"] []) (gPen : mg "_law_pen" = some (.ref fPen)) (GPen : FnOk P w K mg base CX0 1 fPen fdPen ["_law_script"] (spPen K))
    (FD : Fun K "_law_draw" "_law_draw" sDraw fD fdD) (bD : Binds K fdD ["_law_pen_here", "_law_many"] []) (gD : mg "_law_draw" = some (.ref fD)) (GD : FnOk P w K mg base CX0 1 fD fdD ["_law_pen_here", "_law_many"] spDraw)
    (FP : Fun K "_law_pick" "_law_pick" sPick fP fdP) (bP : Binds K fdP ["_law_pen_here", "_law_some"] []) (gP : mg "_law_pick" = some (.ref fP)) (GP : FnOk P w K mg base CX0 2 fP fdP ["_law_pen_here", "_law_some"] (spPick K))
    (FTr : Fun K "_law_tree" "_law_tree" sTree fTr fdTr) (bTr : Binds K fdTr ["_law_pen_here", "_law_many", "_law_deep"] []) (gTr : mg "_law_tree" = some (.ref fTr)) (GTr : FnOk P w K mg base CX0 6 fTr fdTr ["_law_pen_here", "_law_many", "_law_deep"] (spTree 4))
    (FPl : Fun K "_law_planned" "_law_planned" sPlanned fPl fdPl) (bPl : Binds K fdPl ["_law_tree_here", "_law_checks"] []) (gPl : mg "_law_planned" = some (.ref fPl)) (GPl : FnOk P w K mg base CX0 8 fPl fdPl ["_law_tree_here", "_law_checks"] (fun vs H Q E => ∃ T, spPlanned CE C T 4 vs H Q E))
    (FH : Fun K "_law_heard" "_law_heard" sHeard fH fdH) (bH : Binds K fdH ["_law_page"] []) (gH : mg "_law_heard" = some (.ref fH)) (GH : FnOk P w K mg base CX0 12 fH fdH ["_law_page"] (spHeard K CE C))
    (FBe : Fun K "_law_bent" "_law_bent" sBent fBe fdBe) (bBe : Binds K fdBe ["_law_pen_here", "_law_page"] []) (gBe : mg "_law_bent" = some (.ref fBe)) (GBe : FnOk P w K mg base CX0 3 fBe fdBe ["_law_pen_here", "_law_page"] spBent)
    (FDu : Fun K "_law_due" "_law_due" sDue fDu fdDu) (bDu : Binds K fdDu ["_law_page"] []) (gDu : mg "_law_due" = some (.ref fDu)) (GDu : FnOk P w K mg base CX0 8 fDu fdDu ["_law_page"] spDue)
    (M : Mk K CE fI) (bI : Binds K fdI ["self", "tool", "moment", "by"] []) (GI : FnOk P w K mg base (L2.CX P w) 4 fI fdI ["self", "tool", "moment", "by"] (spInit CN CM CE))
    (sE : PySem.W.findIn K (.ref C) "__eq__" = some (some (.ref fE))) (iE : PySem.W.isFn K (.ref fE) = true) (bE : Binds K fdE ["self", "other"] []) (GE : FnOk P w K mg base CX0 8 fE fdE ["self", "other"] (spPEq K CE C 4))
    (nE : PySem.W.findIn K (.ref C) "__ne__" = some (some (.builtin "object.__ne__")))
    (sS : PySem.W.findIn K (.ref C) "__str__" = some (some (.ref fS))) (iS : PySem.W.isFn K (.ref fS) = true) (bS : Binds K fdS ["self"] []) (GS : FnOk P w K mg base CX0 20 fS fdS ["self"] (spPStr CE C 4))
    (FPt : Fun K "plan_text" "plan_text" sPText fPt fdPt) (bPt : Binds K fdPt ["plan"] []) (kPt : KBn K fdPt ["plan"] 0 ["plan"] kPlan kPlan) (gPt : mg "plan_text" = some (.ref fPt)) (GPt : FnOk P w K mg base CX0 23 fPt fdPt ["plan"] (spPText CE C 4))
    (cr : ClX.CRead K C mc) (cm : ClX.CMet K C mc "read" pR fR) (bR : Binds K fdR ["cls", "text"] []) (kR : KBinds K fdR ["cls", "text"] ["text"] kText kText) (GR : FnOk P w K mg base (L2.CX P w) 11 fR fdR ["cls", "text"] (spPRead K CE C CB)) :
    FnG P w K mg base CX0 26 f fd ["_law_script"] (spLaw K) := by
  have GRR := GR.raw bR .nil
  refine fnG_of F scLaw (fun vs H Q E h => ?_) (fun cdv A outer s H vs Q E hg hr h => ?_)
  · obtain ⟨a, ns, rfl, _⟩ := h
    rfl
  · obtain ⟨a, ns, rfl, hS, q⟩ := h
    have hr1 : Room 1 _ := hr.mono (by decide)
    have hr2 : Room 2 _ := hr.mono (by decide)
    have hr3 : Room 3 _ := hr.mono (by decide)
    have hr5 : Room 5 _ := hr.mono (by decide)
    have hr6 : Room 6 _ := hr.mono (by decide)
    have hr8 : Room 8 _ := hr.mono (by decide)
    have hr9 : Room 9 _ := hr.mono (by decide)
    have hr11 : Room 11 _ := hr.mono (by decide)
    have hr12 : Room 12 _ := hr.mono (by decide)
    have hr22 : Room 22 _ := hr.mono (by decide)
    have hr23 : Room 23 _ := hr.mono (by decide)
    refine ⟨_, (pss_cons (ps_set (i := 1) scLaw.nd rfl (.inl rfl) (pe_call GPen hr1 (by rfl) gPen FPen.kp bPen .nil pass0 (pa_cons (pv 0) pa_nil)))
      (pss_cons (ps_for PassesOwn.never rfl (pi_range1 (by rfl) N.rng (pa_cons pe_int pa_nil)) (pg_name (i := 2) scLaw.nd rfl (Or.inl rfl))
      (pss_cons (ps_set (i := 3) scLaw.nd rfl (.inl rfl) (pe_lst (pa_cons (pe_call GD hr1 (by rfl) gD FD.kp bD .nil pass0 (pa_cons (pv 1) (pa_cons pe_int pa_nil))) (pa_cons (pe_op op_pow pe_int pe_int) (pa_cons (pe_call GD hr1 (by rfl) gD FD.kp bD .nil pass0 (pa_cons (pv 1) (pa_cons (pe_op op_pow pe_int pe_int) pa_nil))) pa_nil)))))
      (pss_cons (ps_set (i := 4) scLaw.nd rfl (.inl rfl) (pe_lst (pa_cons (pe_make M GI hr5 (by rfl) N.TE.mgC bI .nil passNo (pa_cons pe_str (pa_cons (pe_ix ix_list (pv 3) pe_int (fun _ _ => rfl)) (pa_cons pe_str pa_nil)))) (pa_cons (pe_make M GI hr5 (by rfl) N.TE.mgC bI .nil passNo (pa_cons pe_str (pa_cons (pe_ix ix_list (pv 3) pe_int (fun _ _ => rfl)) (pa_cons pe_str pa_nil)))) (pa_cons (pe_make M GI hr5 (by rfl) N.TE.mgC bI .nil passNo (pa_cons pe_str (pa_cons (pe_ix ix_list (pv 3) pe_int (fun _ _ => rfl)) (pa_cons pe_str pa_nil)))) pa_nil)))))
      (pss_cons (ps_set (i := 5) scLaw.nd rfl (.inl rfl) (pe_call GPl hr8 (by rfl) gPl FPl.kp bPl .nil pass0 (pa_cons (pe_call GTr hr6 (by rfl) gTr FTr.kp bTr .nil pass0 (pa_cons (pv 1) (pa_cons pe_int (pa_cons pe_int pa_nil)))) (pa_cons (pv 4) pa_nil))))
      (pss_cons (ps_set (i := 6) scLaw.nd rfl (.inl rfl) (pe_callTy (call_strOwn GS sS iS bS pass0 hr22) (by rfl) N.W.str (by decide +kernel) (pa_cons (pv 5) pa_nil)))
      (pss_cons (ps_if (PW.pt (pw_or (pt_cmpR (op_neOwn GE sE iE bE pass0 hr9 nE N.T.hm) (ClX.pe_cmeth (pe_glob (v := .ref C) rfl N.T.mgC rfl) cr cm GRR hr11 passNo (pa_cons (pv 6) pa_nil)) (pv 5) (nomark _)) (pw_or (pt_cmpR (op_neOwn GE sE iE bE pass0 hr9 nE N.T.hm) (pe_cmethK (pe_glob (v := .ref C) rfl N.T.mgC rfl) cr cm GR kR hr11 passNo (pk_cons (pv 6) pk_nil)) (pv 5) (nomark _)) (pw_or1 (pt_cmpR op_ne (pe_call GPt hr23 (by rfl) gPt FPt.kp bPt .nil pass0 (pa_cons (pv 5) pa_nil)) (pv 6) (nomark _)))))) (pss_one (ps_ret pe_bl)) pss_nil)
      (pss_cons (ps_for PassesOwn.never rfl (pi_range1 (by rfl) N.rng (pa_cons pe_int pa_nil)) (pg_name (i := 7) scLaw.nd rfl (Or.inl rfl))
      (pss_cons (ps_set (i := 8) scLaw.nd rfl (.inl rfl) (pe_call GBe hr3 (by rfl) gBe FBe.kp bBe .nil pass0 (pa_cons (pv 1) (pa_cons (pv 6) pa_nil))))
      (C8.pss_cut (ps_if (pt_cmpR op_eq (pe_call GD hr1 (by rfl) gD FD.kp bD .nil pass0 (pa_cons (pv 1) (pa_cons pe_int pa_nil))) pe_int (nomark _)) (pss_one (ps_set (i := 8) scLaw.nd rfl (.inl rfl) (pe_call GBe hr3 (by rfl) gBe FBe.kp bBe .nil pass0 (pa_cons (pv 1) (pa_cons (pv 8) pa_nil))))) pss_nil)
      (pss_cons (ps_par (i := 9) (j := 10) (by rfl) scLaw.nd rfl rfl (by decide) rfl rfl (pa_cons (pe_call GDu hr8 (by rfl) gDu FDu.kp bDu .nil pass0 (pa_cons (pv 8) pa_nil)) (pa_cons (pe_call GH hr12 (by rfl) gH FH.kp bH .nil pass0 (pa_cons (pv 8) pa_nil)) pa_nil)) (by rfl))
      (pss_cons (ps_if (PW.pt (pw_and (pt_cmpR op_isN (pv 9) pe_non (nomark _)) (pw_and1 (PW.pt (pw_or (pt_not (pt_val (pe_callB call_isi (by rfl) N.W.isi (by decide +kernel) (pa_cons (pv 10) (pa_cons (pe_glob (v := .ref C) rfl N.T.mgC rfl) pa_nil))))) (pw_or1 (pt_cmpR op_ne (pe_callK0 GPt hr23 (by rfl) gPt FPt.kp kPt pass0 (pk_cons (pv 10) pk_nil)) (pv 8) (nomark _)))))))) (pss_one (ps_ret pe_bl)) pss_nil)
      (pss_one (ps_if (PW.pt (pw_and (pt_cmpR op_notN (pv 9) pe_non (nomark _)) (pw_and1 (pt_cmpR op_ne (pe_callB (call_reprD hg hr.units) (by rfl) N.rpr (by decide +kernel) (pa_cons (pv 10) pa_nil)) (pe_callB (call_reprD hg hr.units) (by rfl) N.rpr (by decide +kernel) (pa_cons (pv 9) pa_nil)) (nomark _))))) (pss_one (ps_ret pe_bl)) pss_nil)))))))
      (pss_cons (ps_set (i := 11) scLaw.nd rfl (.inl rfl) (pe_call GP hr2 (by rfl) gP FP.kp bP .nil pass0 (pa_cons (pv 1) (pa_cons (pe_lst (pa_cons pe_non (pa_cons pe_int (pa_cons pe_bl (pa_cons (pe_lst (pa_cons (pv 6) pa_nil)) (pa_cons (pe_tup (pa_cons (pv 6) pa_nil)) (pa_cons pe_dnewK (pa_cons (pv 5) pa_nil)))))))) pa_nil))))
      (pss_one (ps_if (pt_cmpR op_ne (pe_callB (call_reprD hg hr.units) (by rfl) N.rpr (by decide +kernel) (pa_cons (pe_call GH hr12 (by rfl) gH FH.kp bH .nil pass0 (pa_cons (pv 11) pa_nil)) pa_nil)) (pe_callB (call_reprD hg hr.units) (by rfl) N.rpr (by decide +kernel) (pa_cons (pe_tup (pa_cons pe_int (pa_cons pe_int pa_nil))) pa_nil)) (nomark _)) (pss_one (ps_ret pe_bl)) pss_nil))))))))))
      (pss_cons (ps_set (i := 12) scLaw.nd rfl (.inl rfl) (pe_lst (pa_cons (pe_call GH hr12 (by rfl) gH FH.kp bH .nil pass0 (pa_cons pe_str pa_nil)) (pa_cons (pe_call GH hr12 (by rfl) gH FH.kp bH .nil pass0 (pa_cons pe_str pa_nil)) (pa_cons (pe_call GH hr12 (by rfl) gH FH.kp bH .nil pass0 (pa_cons pe_str pa_nil)) (pa_cons (pe_call GH hr12 (by rfl) gH FH.kp bH .nil pass0 (pa_cons pe_str pa_nil)) pa_nil))))))
      (pss_one (ps_ret (pe_cmpR op_eq (pe_callB (call_reprD hg hr.units) (by rfl) N.rpr (by decide +kernel) (pa_cons (pv 12) pa_nil)) (pe_callB (call_reprD hg hr.units) (by rfl) N.rpr (by decide +kernel) (pa_cons (pe_lst (pa_cons (pe_tup (pa_cons pe_int (pa_cons pe_int pa_nil))) (pa_cons (pe_tup (pa_cons pe_int (pa_cons pe_int pa_nil))) (pa_cons (pe_tup (pa_cons pe_int (pa_cons pe_int pa_nil))) (pa_cons (pe_tup (pa_cons pe_int (pa_cons pe_int pa_nil))) pa_nil))))) pa_nil)) (nomark _))))))), ?_⟩
    have dle : ∀ {i n : Nat}, i ≤ 1 → n ≤ 1022 → (dT i n).showable = true ∧ (dT i n).depth ≤ 60 ∧ (dT i n).shown.length ≤ sizeLine := fun h1 h2 => by
      obtain ⟨k1, k2, k3⟩ := dT_ok2 _ h1 _ h2
      have := sizeLine_eq
      exact ⟨k1, k2, by omega⟩
    refine ⟨_, rfl, a, ns, rfl, hS, fun H1 p l cs s1 pen1 => ?_⟩
    refine ⟨6, rfl, by decide, by decide, for_range (lo := 0) (n := 6) (fun i σ H' => ∃ x2 x3 x4 x5 x6 x7 x8 x9 x10 x11 x12 n' g', σ = [some (.ref a), some (.ref p), x2, x3, x4, x5, x6, x7, x8, x9, x10, x11, x12] ∧ Pen H' p l cs n' g' ∧ n' ≤ 300 * i)
      ⟨none, none, none, none, none, none, none, none, none, none, none, 0, 0, rfl, pen1, Nat.zero_le _⟩ ?_ ?_⟩
    case refine_2 =>
      rintro σ H2 ⟨x2, x3, x4, x5, x6, x7, x8, x9, x10, x11, x12, n', g', rfl, pen, hn⟩
      refine ⟨_, rfl, .inl ⟨"", "", [], rfl, by decide, due_c1.1, (fun pl h => by rw [due_c1.2] at h; cases h), fun i n hd H3 t1 s3 ht1 => ?_⟩⟩
      rw [due_c1.2] at hd
      cases hd
      refine ⟨_, rfl, .inl ⟨"none", "none", [], rfl, by decide, due_c2.1, (fun pl h => by rw [due_c2.2] at h; cases h), fun i n hd H4 t2 s4 ht2 => ?_⟩⟩
      rw [due_c2.2] at hd
      cases hd
      refine ⟨_, rfl, .inl ⟨"done done", "done done", [], rfl, by decide, due_c3.1, (fun pl h => by rw [due_c3.2] at h; cases h), fun i n hd H5 t3 s5 ht3 => ?_⟩⟩
      rw [due_c3.2] at hd
      cases hd
      refine ⟨_, rfl, .inl ⟨"done\n", "done", [""], rfl, by decide, due_c4.1, (fun pl h => by rw [due_c4.2] at h; cases h), fun i n hd H6 t4 s6 ht4 => ?_⟩⟩
      rw [due_c4.2] at hd
      cases hd
      refine ⟨by show 4 ≤ sizeLine; decide, fun b hb => ?_⟩
      have sb := same_upd0 (o := .lst [.ref t1, .ref t2, .ref t3, .ref t4]) hb
      have r4 := sb _ _ ht4
      have r3 := sb _ _ (s6 _ _ ht3)
      have r2 := sb _ _ (s6 _ _ (s5 _ _ ht2))
      have r1 := sb _ _ (s6 _ _ (s5 _ _ (s4 _ _ ht1)))
      have rb := upd_same (H := H6) (a := b) (o := .lst [.ref t1, .ref t2, .ref t3, .ref t4])
      generalize L2.upd H6 b (.lst [.ref t1, .ref t2, .ref t3, .ref t4]) = H7 at r1 r2 r3 r4 rb ⊢
      obtain ⟨m1, m2, m3⟩ := dL_ok
      refine ⟨_, rfl, _, dL, rfl, .lst (SqL.of rb) (.cons (dp_dT r1) (.cons (dp_dT r2) (.cons (dp_dT r3) (.cons (dp_dT r4) .nil)))), m1, m2, m3, ?_⟩
      refine ⟨by show 2 ≤ sizeLine; decide, fun u1 h1 => ⟨by show 2 ≤ sizeLine; decide, fun u2 h2 => ⟨by show 2 ≤ sizeLine; decide, fun u3 h3 => ⟨by show 2 ≤ sizeLine; decide, fun u4 h4 => ⟨by show 4 ≤ sizeLine; decide, fun u5 h5 => ?_⟩⟩⟩⟩⟩
      have z5 := same_upd0 (o := .lst [.ref u1, .ref u2, .ref u3, .ref u4]) h5
      have z4 := same_upd0 (o := .tup [.int 1, .int 0]) h4
      have z3 := same_upd0 (o := .tup [.int 0, .int 1]) h3
      have z2 := same_upd0 (o := .tup [.int 0, .int 0]) h2
      refine ⟨_, dL, rfl, .lst (SqL.of upd_same) (.cons (dp_dT (i := 0) (n := 0) (z5 _ _ (z4 _ _ (z3 _ _ (z2 _ _ upd_same))))) (.cons (dp_dT (i := 0) (n := 0) (z5 _ _ (z4 _ _ (z3 _ _ upd_same)))) (.cons (dp_dT (i := 0) (n := 1) (z5 _ _ (z4 _ _ upd_same))) (.cons (dp_dT (i := 1) (n := 0) (z5 _ _ upd_same)) .nil)))), m1, m2, m3, rfl, ?_⟩
      rw [decide_eq_true rfl]
      exact q _
    rintro i σ H2 hi ⟨x2, x3, x4, x5, x6, x7, x8, x9, x10, x11, x12, n2, g2, rfl, pen2, hn2⟩
    have e10 : (10 : Int) ^ (Int.toNat 30) = 1000000000000000000000000000000 := by decide
    refine ⟨_, rfl, p, l, cs, n2, g2, _, rfl, pen2, by omega, by decide, by decide, fun m0 n3 g3 H3 m00 m01 hn3 off3 pen3 => ?_⟩
    refine ⟨_, _, rfl, rfl, ⟨by decide, by decide, by decide⟩, _, rfl, _, _, rfl, rfl, ⟨by decide, by decide, by decide⟩, p, l, cs, n3, g3, _, rfl, pen3, by omega, by decide, by decide, fun m2 n4 g4 H4 m20 m21 hn4 off4 pen4 => ?_⟩
    rw [e10] at m21
    refine ⟨by show 3 ≤ sizeLine; decide, fun tk htk => ?_⟩
    have pen5 := pen_same pen4 (same_upd0 (o := .lst [.int m0, .int ((10 : Int) ^ (Int.toNat 30)), .int m2]) htk)
    have ltk : (L2.upd H4 tk (.lst [.int m0, .int ((10 : Int) ^ (Int.toNat 30)), .int m2])) tk = some (.lst [.int m0, .int ((10 : Int) ^ (Int.toNat 30)), .int m2]) := upd_same
    show ∃ v, _
    generalize L2.upd H4 tk (.lst [.int m0, .int ((10 : Int) ^ (Int.toNat 30)), .int m2]) = H5 at pen5 ltk ⊢
    rw [e10] at ltk
    clear off3 pen3 off4 pen4 pen2 htk
    have gz : ∀ {u : Str} H', isName u = true → Gv H' (.str u) "str" := fun _ h => .str _ (Nat.le_trans (name_len h) (by decide))
    have T0 : EOk "a" m0 "b" := ⟨by decide +kernel, ⟨m00, by omega⟩, by decide +kernel⟩
    have T1 : EOk "by" 1000000000000000000000000000000 "check" := ⟨by decide +kernel, by decide, by decide +kernel⟩
    have T2 : EOk "done" m2 "z9" := ⟨by decide +kernel, ⟨m20, by omega⟩, by decide +kernel⟩
    refine ⟨_, rfl, tk, _, 0, _, rfl, rfl, SqL.of ltk, atI_nat (j := 0) rfl, fun a0 d0 u1 u2 u3 => ?_⟩
    refine made1 u1 u2 u3 (gz _ T0.z) (.int m0) (gz _ T0.y) (Ways.ok T0.z T0.m T0.y fun H6 s6 ha0 => ?_)
    refine ⟨_, rfl, tk, _, 1, _, rfl, rfl, SqL.of (s6 _ _ ltk), atI_nat (j := 1) rfl, fun a1 d1 v1 v2 v3 => ?_⟩
    refine made1 v1 v2 v3 (gz _ T1.z) (.int _) (gz _ T1.y) (Ways.ok T1.z T1.m T1.y fun H7 s7 ha1 => ?_)
    refine ⟨_, rfl, tk, _, 2, _, rfl, rfl, SqL.of (s7 _ _ (s6 _ _ ltk)), atI_nat (j := 2) rfl, fun a2 d2 w1 w2 w3 => ?_⟩
    refine made1 w1 w2 w3 (gz _ T2.z) (.int m2) (gz _ T2.y) (Ways.ok T2.z T2.m T2.y fun H8 s8 ha2 => ?_)
    refine ⟨by show 3 ≤ sizeLine; decide, fun ck hck => ?_⟩
    have s9 := same_upd0 (o := .lst [.ref a0, .ref a1, .ref a2]) hck
    have pen9 := pen_same pen5 (((s6.trans s7).trans s8).trans s9)
    have nck : ck ≠ p := (ne_of_none (pen_same pen5 ((s6.trans s7).trans s8)).pen hck).symm
    have hEs : EsAt CE (tE m0 m2) (L2.upd H8 ck (.lst [.ref a0, .ref a1, .ref a2])) ck := ⟨a0, a1, a2, upd_same, ⟨d0, s9 _ _ (s8 _ _ (s7 _ _ ha0))⟩, ⟨d1, s9 _ _ (s8 _ _ ha1)⟩, ⟨d2, s9 _ _ ha2⟩⟩
    have hTs : (tE m0 m2).Ok := fun k hk => by
      match k, hk with
      | 0, _ => exact T0
      | 1, _ => exact T1
      | 2, _ => exact T2
    generalize L2.upd H8 ck (.lst [.ref a0, .ref a1, .ref a2]) = H9 at pen9 hEs ⊢
    clear pen5 ltk s6 s7 s8 s9 ha0 ha1 ha2 u1 u2 u3 v1 v2 v3 w1 w2 w3 hck
    refine ⟨_, rfl, p, l, cs, n4, g4, rfl, by decide, pen9, by omega, fun tv tr n5 g5 H10 htr htn hto htd hn5 off10 pen10 => ?_⟩
    have hEs10 := hEs.off pen9.pen nck off10
    refine ⟨_, rfl, tE m0 m2, tv, ck, tr, rfl, hEs10, htr, hto, htd, Nat.le_refl _, fun H11 mv s11 hmv => ?_⟩
    obtain ⟨hpo, hpd⟩ := pl_ok hTs hto
    have hps := pl_sh (tE_sh m0 m2) hto
    have hpn : tr.pl (tE m0 m2) ≠ .none := fun e => htn (pl_none.mp e)
    rw [← hpd] at htd
    have pen11 := pen_same pen10 s11
    clear hpd htn hto htr hEs10 off10 pen10 hEs pen9 hTs T0 T1 T2
    generalize tr.pl (tE m0 m2) = pl at hmv hpo hps hpn htd
    obtain ⟨_, _⟩ | ⟨_, _, ⟨x, dx, fs, rfl, hx⟩, _⟩ := hmv.ty N.T
    · rename_i e _
      exact absurd e hpn
    have hlin := txt_lin hpo hps htd
    have hlns := txt_line hpo
    have hdue := due_txt hpo htd hpn
    have hl5 : pl.txt.length ≤ 100000 := Nat.le_trans hlin.1 (by decide)
    have hl2 : pl.txt.length ≤ 2000 := Nat.le_trans hlin.1 (by decide)
    have samep : ∀ {pl' : Pl}, dueOf pl.txt [] = .inr pl' → pl' = pl := fun h => by
      rw [hdue] at h
      exact (Sum.inr.inj h).symm
    refine ⟨_, rfl, x, dx, _, rfl, hx, x, pl, rfl, hmv, hpo, htd, hl5, _, rfl, ?_⟩
    refine ⟨rfl, _, rfl, _, rfl, .inl ⟨pl.txt, pl.txt, [], rfl, hl2, hlns, fun pl' h H12 v12 s12 p12 => ?_, fun i n h => by rw [hdue] at h; cases h⟩⟩
    obtain rfl := samep h
    refine ⟨_, rfl, ownP N.T p12 (hmv.same s12) hpn htd ⟨_, rfl, iteF ?_⟩⟩
    refine ⟨rfl, _, rfl, _, rfl, .inl ⟨pl'.txt, pl'.txt, [], rfl, hl2, hlns, fun pl2 h2 H13 v13 s13 p13 => ?_, fun i n h => by rw [hdue] at h; cases h⟩⟩
    obtain rfl := samep h2
    have hm13 := (hmv.same s12).same s13
    refine ⟨_, rfl, ownP N.T p13 hm13 hpn htd ⟨_, rfl, iteF ?_⟩⟩
    refine ⟨_, rfl, x, pl2, rfl, hm13, hpo, htd, hl5, _, rfl, rfl, _, rfl, ite2 (fun e => absurd e neSame) (fun _ => ?_)⟩
    have pen13 := pen_same pen11 (s12.trans s13)
    clear pen11 p13 p12 hmv hx s11 s12 s13 h h2 samep hdue hlns
    obtain ⟨plm, hplm⟩ : ∃ u : Pl, u = pl2 := ⟨_, rfl⟩
    subst hplm
    generalize hpg : plm.txt = pg at hlin hl5 hl2 ⊢
    refine ⟨5, rfl, by decide, by decide, for_range (lo := 0) (n := 5) (fun j σ H' => ∃ y7 y8 y9 y10 n' g', σ = [some (.ref a), some (.ref p), some (.int (0 + (i : Int))), some (.ref tk), some (.ref ck), some (.ref x), some (.str pg), y7, y8, y9, y10, x11, x12] ∧ Pen H' p l cs n' g' ∧ n' ≤ n5 + 20 * j ∧ PlAt CE C H' (.ref x) plm)
      ⟨x7, x8, x9, x10, n5, g5, rfl, pen13, Nat.le_refl _, hm13⟩ ?_ ?_⟩
    case refine_2 =>
      rintro σ H14 ⟨y7, y8, y9, y10, n8, g8, rfl, pen14, hn8, A14⟩
      clear pen13 hm13
      refine ⟨_, rfl, _, rfl, by show 1 ≤ sizeLine; decide, fun q1 h1 => ⟨_, rfl, by show 1 ≤ sizeLine; decide, fun q2 h2 => fun q3 h3 => ⟨_, rfl, by show 7 ≤ sizeLine; decide, fun q4 h4 => ?_⟩⟩⟩
      have s4 := ((same_upd0 (o := .lst [.str pg]) h1).trans (same_upd0 (o := .tup [.str pg]) h2)).trans (same_upd0 (o := .dK []) h3)
      have s5 := s4.trans (same_upd0 (o := .lst [.non, .int 0, .bl true, .ref q1, .ref q2, .ref q3, .ref x]) h4)
      have F0 : (L2.upd (L2.upd (L2.upd (L2.upd H14 q1 (.lst [.str pg])) q2 (.tup [.str pg])) q3 (.dK [])) q4 (.lst [.non, .int 0, .bl true, .ref q1, .ref q2, .ref q3, .ref x])) q4 = some (.lst [.non, .int 0, .bl true, .ref q1, .ref q2, .ref q3, .ref x]) ∧
          (L2.upd (L2.upd (L2.upd (L2.upd H14 q1 (.lst [.str pg])) q2 (.tup [.str pg])) q3 (.dK [])) q4 (.lst [.non, .int 0, .bl true, .ref q1, .ref q2, .ref q3, .ref x])) q1 = some (.lst [.str pg]) ∧
          (L2.upd (L2.upd (L2.upd (L2.upd H14 q1 (.lst [.str pg])) q2 (.tup [.str pg])) q3 (.dK [])) q4 (.lst [.non, .int 0, .bl true, .ref q1, .ref q2, .ref q3, .ref x])) q2 = some (.tup [.str pg]) ∧
          (L2.upd (L2.upd (L2.upd (L2.upd H14 q1 (.lst [.str pg])) q2 (.tup [.str pg])) q3 (.dK [])) q4 (.lst [.non, .int 0, .bl true, .ref q1, .ref q2, .ref q3, .ref x])) q3 = some (.dK []) :=
        ⟨upd_same, (same_upd0 h4) _ _ ((same_upd0 h3) _ _ ((same_upd0 h2) _ _ upd_same)), (same_upd0 h4) _ _ ((same_upd0 h3) _ _ upd_same), (same_upd0 h4) _ _ upd_same⟩
      have n4' : q4 ≠ p := (ne_of_none (s4 _ _ pen14.pen) h4).symm
      have n1' : q1 ≠ p := (ne_of_none pen14.pen h1).symm
      have n2' : q2 ≠ p := (ne_of_none (same_upd0 (o := .lst [.str pg]) h1 _ _ pen14.pen) h2).symm
      have n3' : q3 ≠ p := (ne_of_none (((same_upd0 (o := .lst [.str pg]) h1).trans (same_upd0 (o := .tup [.str pg]) h2)) _ _ pen14.pen) h3).symm
      have A5 := A14.same s5
      have pen5 := pen_same pen14 s5
      revert F0 A5 pen5
      generalize L2.upd (L2.upd (L2.upd (L2.upd H14 q1 (.lst [.str pg])) q2 (.tup [.str pg])) q3 (.dK [])) q4 (.lst [.non, .int 0, .bl true, .ref q1, .ref q2, .ref q3, .ref x]) = H5'
      rintro ⟨f4, f1, f2, f3⟩ A5 pen5
      clear h1 h2 h3 h4 s4 s5 A14 pen14
      refine ⟨p, l, cs, n8, g8, _, rfl, pen5, by omega, .inl ⟨q4, _, rfl, n4', f4, by show 0 < 7; decide, by show 7 ≤ 1000; decide, fun v n9 g9 H15 hv hn9 off15 pen15 => ?_⟩⟩
      obtain ⟨ty, hty, hk⟩ : ∃ ty, TyX K H15 v ty ∧ PySem.W.kitOne K ty (.type "str") = some false := by
        simp only [List.mem_cons, List.not_mem_nil, or_false] at hv
        rcases hv with h | h | h | h | h | h | h <;> subst h
        · exact ⟨_, .base .non, N.noT "NoneType" (by simp)⟩
        · exact ⟨_, .base (.int 0), N.noT "int" (by simp)⟩
        · exact ⟨_, .base (.bl true), N.noT "bool" (by simp)⟩
        · exact ⟨_, (Gv.lst (off15 _ _ n1' f1)).ty, N.noT "list" (by simp)⟩
        · exact ⟨_, (Gv.tup (off15 _ _ n2' f2)).ty, N.noT "tuple" (by simp)⟩
        · exact ⟨_, (Gv.dK (off15 _ _ n3' f3)).ty, N.noT "dict" (by simp)⟩
        · obtain ⟨e, _⟩ | ⟨_, _, _, hty⟩ := (A5.off pen5.pen off15).ty N.T
          · exact absurd e hpn
          · exact ⟨_, hty, N.noS⟩
      obtain ⟨k1, k2, k3⟩ := dle (i := 0) (n := 0) (by decide) (by decide)
      refine ⟨_, rfl, _, rfl, .inr ⟨ty, hty, hk, fun G2 t2 s2' ht2 => ?_⟩⟩
      refine ⟨_, dT 0 0, rfl, dp_dT (i := 0) (n := 0) ht2, k1, k2, k3, by show 2 ≤ sizeLine; decide, fun r2 hr2 => ?_⟩
      refine ⟨_, dT 0 0, rfl, dp_dT (i := 0) (n := 0) upd_same, k1, k2, k3, rfl, _, rfl, ite2 (fun e => absurd e neSame) (fun _ => ?_)⟩
      exact ⟨_, _, _, _, _, _, _, _, _, _, _, n9, g9, rfl, pen_same pen15 (s2'.trans (same_upd0 hr2)), by omega⟩
    rintro j σ H14 hj ⟨y7, y8, y9, y10, n8, g8, rfl, pen14, hn8, A14⟩
    clear pen13 hm13
    refine ⟨_, rfl, _, rfl, p, l, cs, n8, g8, pg, 875, rfl, pen14, by omega, hlin, by decide, fun z1 n9 g9 H15 hz1 hn9 off15 pen15 => ?_⟩
    have A15 := A14.off pen14.pen off15
    clear A14 pen14 off15
    refine ⟨fun σ G => ∃ zz n' g', σ = [some (.ref a), some (.ref p), some (.int (0 + (i : Int))), some (.ref tk), some (.ref ck), some (.ref x), some (.str pg), some (.int (0 + (j : Int))), some (.str zz), y9, y10, x11, x12] ∧ Lin 965 zz ∧ Pen G p l cs n' g' ∧ n' ≤ n8 + 13 ∧ PlAt CE C G (.ref x) plm, ?_, ?_⟩
    · refine ⟨_, rfl, p, l, cs, n9, g9, _, rfl, pen15, by omega, by decide, by decide, fun d n10 g10 H16 d0 d1 hn10 off16 pen16 => ?_⟩
      have A16 := A15.off pen15.pen off16
      refine ⟨rfl, _, rfl, ite2 (fun _ => ?_) (fun _ => ?_)⟩
      · refine ⟨_, rfl, _, rfl, p, l, cs, n10, g10, z1, 920, rfl, pen16, by omega, hz1, by decide, fun z2 n11 g11 H17 hz2 hn11 off17 pen17 => ?_⟩
        exact ⟨z2, n11, g11, rfl, hz2, pen17, by omega, A16.off pen16.pen off17⟩
      · exact ⟨z1, n10, g10, rfl, ⟨Nat.le_trans hz1.1 (by decide), hz1.2⟩, pen16, by omega, A16⟩
    rintro σ G ⟨zz, n10, g10, rfl, hzz, penG, hn10, AG⟩
    clear A15 pen15
    have hz2 : zz.length ≤ 2000 := Nat.le_trans hzz.1 (by decide)
    obtain ⟨p0, ps, hps'⟩ : ∃ p0 ps, Txt.split zz "\n" = p0 :: ps := by
      have := split_pos zz "\n"
      cases h : Txt.split zz "\n" with
      | nil => rw [h] at this; simp at this
      | cons u v => exact ⟨u, v, rfl⟩
    have hp0 : p0.length ≤ 1015 := Nat.le_trans (part_short (by rw [hps']; exact List.mem_cons_self : p0 ∈ Txt.split zz "\n")) (Nat.le_trans hzz.1 (by decide))
    refine ⟨_, rfl, zz, p0, ps, rfl, hz2, hzz.2, hps', fun i2 n2' hd G1 t1 s1' ht1 => ?_, fun pl2 hd G1 s1' => ?_⟩
    · refine ⟨_, rfl, _, rfl, .inl ⟨zz, p0, ps, rfl, hz2, hps', (fun pl' h => by rw [hd] at h; cases h), fun i3 n3' hd' G2 t2 s2' ht2 => ?_⟩⟩
      rw [hd] at hd'
      cases hd'
      refine ⟨_, _, rfl, ?_⟩
      obtain ⟨b1, b2⟩ := due_small hd hp0
      obtain ⟨k1, k2, k3⟩ := dle b1 b2
      refine ⟨_, rfl, rfl, _, rfl, ite2 (fun e => absurd e (by simp)) (fun _ => iteF ?_)⟩
      refine ⟨_, rfl, rfl, _, rfl, ite2 (fun _ => ?_) (fun e => absurd (by simp) e)⟩
      refine ⟨_, rfl, _, dT i2 n2', rfl, dp_dT (i := i2) (n := n2') ht2, k1, k2, k3, _, rfl, _, dT i2 n2', rfl, dp_dT (i := i2) (n := n2') (s2' _ _ ht1), k1, k2, k3, rfl, _, rfl, ite2 (fun e => absurd e neSame) (fun _ => ?_)⟩
      have S := s1'.trans s2'
      exact ⟨_, _, _, _, n10, g10, rfl, pen_same penG S, by omega, AG.same S⟩
    · refine ⟨_, rfl, _, rfl, .inl ⟨zz, p0, ps, rfl, hz2, hps', (fun pl' h G2 v2 s2' Ax => ?_), fun i3 n3' h => by rw [hd] at h; cases h⟩⟩
      rw [hd] at h
      cases h
      refine ⟨_, _, rfl, ?_⟩
      obtain ⟨ok2, dp2, nn2, tx2⟩ := due_back hps' hd
      obtain ⟨e, _⟩ | ⟨_, _, ⟨x', d', fs', rfl, hx'⟩, _⟩ := Ax.ty N.T
      · exact absurd e nn2
      refine ⟨_, rfl, rfl, _, rfl, ite2 (fun _ => ?_) (fun e => absurd (decide_eq_true rfl) e)⟩
      refine ⟨_, rfl, _, _, _, _, true, rfl, .own C, .base (.ins hx' N.T.cl N.T.ha N.T.hn N.T.htk N.T.hm), N.T.me, true, rfl, ?_⟩
      refine iteF ?_
      refine ⟨_, rfl, rfl, x', pl2, rfl, Ax, ok2, dp2, by rw [tx2]; exact Nat.le_trans hz2 (by decide), _, rfl, rfl, _, rfl, ?_⟩
      rw [tx2]
      refine ite2 (fun e => absurd e neSame) (fun _ => ?_)
      refine ⟨_, rfl, rfl, _, rfl, ite2 (fun e => absurd e (by simp)) (fun _ => iteF ?_)⟩
      have S := s1'.trans s2'
      exact ⟨_, _, _, _, n10, g10, rfl, pen_same penG S, by omega, AG.same S⟩
end
end K81

namespace K81
open PySem PySem.Spec PyProof.Rows L2 So LamX
def strOf? : Value → Option Str
  | .str x _ => some x
  | _ => none
theorem vals_strs : ∀ {ss : List Str} {us : List Value}, us.map strOf? = ss.map some → Vals (ss.map V.str) us
  | [], [], _ => .nil
  | [], _ :: _, h => by simp at h
  | _ :: _, [], h => by simp at h
  | x :: ss, u :: us, h => by
    simp only [List.map_cons, List.cons.injEq] at h
    refine .cons ?_ (vals_strs h.2)
    cases u <;> simp [strOf?] at h
    rename_i y t
    exact ⟨t, by rw [h.1]⟩
theorem tab_seq {K : PySem.W.Frag} {a : Addr} {od : Option Addr} {its : Array Value} {n : Nat} {sl : Array (Option Value)} {ss : List Str} (l : K.lookup a = some ⟨.type "tuple", od, .seq its n, sl⟩) (v : its.toList.map strOf? = ss.map some) (hz : ss.length ≤ 1000) (H : Hp) : SqT K H a (ss.map V.str) := by
  have hv := vals_strs v
  refine .inr ⟨_, its, n, l, rfl, rfl, ?_, hv⟩
  have := hv.length
  rw [List.length_map] at this
  rw [← Array.length_toList, ← this]
  exact Nat.le_trans hz (by decide)
section
variable {K : PySem.W.Frag}
theorem exm_own {D S : Addr} (h2 : PySem.W.isClsIn K S = true) (h3 : PySem.W.typeIn K (.ref S) = some (.type "type")) (h1 : PySem.W.subIn K (.ref S) (.type "BaseException") = some true) (h4 : PySem.W.subIn K (.ref D) (.ref S) = some true) (_ : PySem.W.subIn K (.ref S) (.ref S) = some true) : PySem.W.exmOne K (.ref D) (.ref S) = some true := by
  unfold PySem.W.exmOne PySem.W.kitCls
  unfold PySem.W.isClsIn at h2
  simp [h1, h2, h3, h4]
theorem tab_by {x : Str} {f c P : Addr} {o1 u1 : Value} {o2 u2 : Option Addr} {o3 u3 : Array (Option Value)} {fd : FuncData} {vs : Array Value} (a : PySem.W.nsIn K mainGlobals x = some (some (.ref f))) (l : K.lookup f = some ⟨o1, o2, .func fd, o3⟩) (hc : fd.code = .ref c)
    (lc : K.lookup c = some ⟨u1, u2, .fields vs, u3⟩) (hv : (vs[11]? : Option Value) = some (.ref P)) : PySem.W.tabIn K x = some (c, P) := by
  unfold PySem.W.tabIn
  rw [a]
  simp only [l, hc, lc, hv]
theorem kit_VE {D : Addr} (h : PySem.W.subIn K (.ref D) (.type "ValueError") = some true) : PySem.W.kitOne K (.ref D) (.type "ValueError") = some true := by
  unfold PySem.W.kitOne PySem.W.kitCls
  have e : PySem.W.kitMeta "ValueError" = true := by decide +kernel
  simp [h, e]
theorem kit_own {D C : Addr} {b : Bool} (hc : PySem.W.isClsIn K C = true) (ht : PySem.W.typeIn K (.ref C) = some (.type "type")) (hs : PySem.W.subIn K (.ref D) (.ref C) = some b) (self : PySem.W.subIn K (.ref C) (.ref C) = some true) : PySem.W.kitOne K (.ref D) (.ref C) = some b := by
  by_cases e : D = C
  · subst e
    rw [self] at hs
    rw [kit_self, hs]
  · unfold PySem.W.kitOne PySem.W.kitCls
    unfold PySem.W.isClsIn at hc
    simp [hc, ht, hs, e]
end
abbrev sEB : Stmt := inClass (topS 7) 0
theorem scEB : FnScope ["self", "line", "word"] ["self", "line", "word"] (defScope sEB) := ⟨rfl, rfl, rfl, by decide +kernel, rfl, by decide +kernel, by decide +kernel⟩
theorem kit_str {K : PySem.W.Frag} {C : Addr} (h : PySem.W.subIn K (.ref C) (.type "str") = some false) : PySem.W.kitOne K (.ref C) (.type "str") = some false := by
  unfold PySem.W.kitOne PySem.W.kitCls
  have e : PySem.W.kitMeta "str" = true := by decide +kernel
  simp [h, e]
theorem kb_plan {K : PySem.W.Frag} {fd : FuncData} (h : ∀ (s : Shared) (u : Value), BindsTo s fd ⟨[], [("plan", u)]⟩ [("plan", u)]) : KBn K fd ["plan"] 0 ["plan"] kPlan kPlan := by
  refine ⟨fun s us ws _ h1 h2 => ?_, fun {vs us zs ws} r rz => ?_⟩
  · match us, h1, ws, h2 with
    | [], _, [a], _ => exact h s a
  · cases r with
    | cons _ _ => exact .nil
    | nil =>
      cases rz with
      | nil => exact .nil
      | cons r1 rz =>
        cases rz with
        | nil => exact .cons r1 .nil
        | cons _ _ => exact .nil
theorem kb_text {K : PySem.W.Frag} {fd : FuncData} (h : ∀ (s : Shared) (u w : Value), BindsTo s fd ⟨[u], [("text", w)]⟩ [("cls", u), ("text", w)]) : KBinds K fd ["cls", "text"] ["text"] kText kText := by
  refine ⟨fun s us ws _ hl => ?_, fun {vs us zs ws} r rz => ?_⟩
  · match us, ws, hl with
    | [u], [w], _ => exact h s u w
    | [], _, hl => cases hl
    | [_], [], hl => cases hl
    | [_], _ :: _ :: _, hl => cases hl
    | _ :: _ :: _, _, hl => cases hl
  · cases r with
    | nil => exact .nil
    | cons r1 r =>
      cases r with
      | cons _ _ => exact .nil
      | nil =>
        cases rz with
        | nil => exact .nil
        | cons r2 rz =>
          cases rz with
          | nil => exact .cons r1 (.cons r2 .nil)
          | cons _ _ => exact .nil
theorem all_mk {l : PySem.W.OpenLaw} {w : World} {K : PySem.W.Frag} {h : Heap} {mg : Str → Option Value} {fa fpen fdraw fpick ftree fplanned fheard flis flmo ffits flread fdue fbent flaw fwhole fmoment fname fcheck fnumber fhasf flines falone ffirst ftold fvalof fbt ffrom fptext CE finit feq fstr C fpinit pppass fppass ppfail fpfail ppdone fpdone ppask fpask ppread fpread fpeq fpstr aNo aK CT CN feN CM feM CS feS CB feB : Addr} (X : K.In h) (G : h.Ns mainGlobals mg) (hfa : mg "law" = some (.ref fa))
    {odpen anpen oddraw andraw odpick anpick odtree antree odplanned anplanned odheard anheard odlis anlis odlmo anlmo odfits anfits odlread anlread oddue andue odbent anbent odlaw anlaw odwhole anwhole odmoment anmoment odname anname odcheck ancheck odnumber annumber odhasf anhasf odlines anlines odalone analone odfirst anfirst odtold antold odvalof anvalof odbt anbt odfrom anfrom odptext anptext odinit aninit odeq aneq odstr anstr odpinit anpinit odppass anppass odpfail anpfail odpdone anpdone odpask anpask odpread anpread odpeq anpeq odpstr anpstr odN odK odeN aneN odeM aneM odeS aneS odeB aneB : Option Addr} {slpen sldraw slpick sltree slplanned slheard sllis sllmo slfits sllread sldue slbent sllaw slwhole slmoment slname slcheck slnumber slhasf sllines slalone slfirst sltold slvalof slbt slfrom slptext slinit sleq slstr slpinit slppass slpfail slpdone slpask slpread slpeq slpstr slN slK sleN sleM sleS sleB : Array (Option Value)} {ocpen kVpen dcpen pmpen ctpen cdpen ocdraw kVdraw dcdraw pmdraw ctdraw cddraw ocpick kVpick dcpick pmpick ctpick cdpick octree kVtree dctree pmtree cttree cdtree ocplanned kVplanned dcplanned pmplanned ctplanned cdplanned ocheard kVheard dcheard pmheard ctheard cdheard oclis kVlis dclis pmlis ctlis cdlis oclmo kVlmo dclmo pmlmo ctlmo cdlmo ocfits kVfits dcfits pmfits ctfits cdfits oclread kVlread dclread pmlread ctlread cdlread ocdue kVdue dcdue pmdue ctdue cddue ocbent kVbent dcbent pmbent ctbent cdbent oclaw kVlaw dclaw pmlaw ctlaw cdlaw ocwhole kVwhole dcwhole pmwhole ctwhole cdwhole ocmoment kVmoment dcmoment pmmoment ctmoment cdmoment ocname kVname dcname pmname ctname cdname occheck kVcheck dccheck pmcheck ctcheck cdcheck ocnumber kVnumber dcnumber pmnumber ctnumber cdnumber ochasf kVhasf dchasf pmhasf cthasf cdhasf oclines kVlines dclines pmlines ctlines cdlines ocalone kValone dcalone pmalone ctalone cdalone ocfirst kVfirst dcfirst pmfirst ctfirst cdfirst octold kVtold dctold pmtold cttold cdtold ocvalof kVvalof dcvalof pmvalof ctvalof cdvalof ocbt kVbt dcbt pmbt ctbt cdbt ocfrom kVfrom dcfrom pmfrom ctfrom cdfrom ocptext kVptext dcptext pmptext ctptext cdptext ocinit kVinit dcinit pminit ctinit cdinit oceq kVeq dceq pmeq cteq cdeq ocstr kVstr dcstr pmstr ctstr cdstr ocpinit kVpinit dcpinit pmpinit ctpinit cdpinit ocppass kVppass dcppass pmppass ctppass cdppass ocpfail kVpfail dcpfail pmpfail ctpfail cdpfail ocpdone kVpdone dcpdone pmpdone ctpdone cdpdone ocpask kVpask dcpask pmpask ctpask cdpask ocpread kVpread dcpread pmpread ctpread cdpread ocpeq kVpeq dcpeq pmpeq ctpeq cdpeq ocpstr kVpstr dcpstr pmpstr ctpstr cdpstr oceN kVeN dceN pmeN cteN cdeN oceM kVeM dceM pmeM cteM cdeM oceS kVeS dceS pmeS cteS cdeS oceB kVeB dceB pmeB cteB cdeB : Value} {restppass restpfail restpdone restpask restpread : List Value}  {tG tL tA tD : Tok} {itsN : Array Value} {nN : Nat} {tLN tME : Tok} {itsK : Array Value} {nK : Nat} {nmN qN : Str} {NN : Addr} {bsN subN : List Value} {snN : List Str} {abN : Bool} {colN : Option Bool} {ddN : Option Addr} {m0N m1N m2N m3N m5N : Option Value} {nmM qM : Str} {NM : Addr} {bsM subM : List Value} {snM : List Str} {abM : Bool} {colM : Option Bool} {ddM : Option Addr} {m0M m1M m2M m3M m5M : Option Value} {nmS qS : Str} {NS : Addr} {bsS subS : List Value} {snS : List Str} {abS : Bool} {colS : Option Bool} {ddS : Option Addr} {m0S m1S m2S m3S m5S : Option Value} {nmB qB : Str} {NB : Addr} {bsB subB : List Value} {snB : List Str} {abB : Bool} {colB : Option Bool} {ddB : Option Addr} {m0B m1B m2B m3B m5B : Option Value}
    (apen : PySem.W.nsIn K mainGlobals "_law_pen" = some (some (.ref fpen)))
    (lpen : K.lookup fpen = some ⟨ocpen, odpen, .func (PySem.W.fnOf "_law_pen" "_law_pen" (defArgs sPen) (defBody sPen) (defScope sPen) .none kVpen dcpen pmpen anpen cdpen ctpen), slpen⟩)
    (cpen : PySem.W.codeIn K cdpen "_law_pen" = true)
    (kpen : PySem.W.keepIn K (.ref fpen) = true)
    (adraw : PySem.W.nsIn K mainGlobals "_law_draw" = some (some (.ref fdraw)))
    (ldraw : K.lookup fdraw = some ⟨ocdraw, oddraw, .func (PySem.W.fnOf "_law_draw" "_law_draw" (defArgs sDraw) (defBody sDraw) (defScope sDraw) .none kVdraw dcdraw pmdraw andraw cddraw ctdraw), sldraw⟩)
    (cdraw : PySem.W.codeIn K cddraw "_law_draw" = true)
    (kdraw : PySem.W.keepIn K (.ref fdraw) = true)
    (apick : PySem.W.nsIn K mainGlobals "_law_pick" = some (some (.ref fpick)))
    (lpick : K.lookup fpick = some ⟨ocpick, odpick, .func (PySem.W.fnOf "_law_pick" "_law_pick" (defArgs sPick) (defBody sPick) (defScope sPick) .none kVpick dcpick pmpick anpick cdpick ctpick), slpick⟩)
    (cpick : PySem.W.codeIn K cdpick "_law_pick" = true)
    (kpick : PySem.W.keepIn K (.ref fpick) = true)
    (atree : PySem.W.nsIn K mainGlobals "_law_tree" = some (some (.ref ftree)))
    (ltree : K.lookup ftree = some ⟨octree, odtree, .func (PySem.W.fnOf "_law_tree" "_law_tree" (defArgs sTree) (defBody sTree) (defScope sTree) .none kVtree dctree pmtree antree cdtree cttree), sltree⟩)
    (ctree : PySem.W.codeIn K cdtree "_law_tree" = true)
    (ktree : PySem.W.keepIn K (.ref ftree) = true)
    (aplanned : PySem.W.nsIn K mainGlobals "_law_planned" = some (some (.ref fplanned)))
    (lplanned : K.lookup fplanned = some ⟨ocplanned, odplanned, .func (PySem.W.fnOf "_law_planned" "_law_planned" (defArgs sPlanned) (defBody sPlanned) (defScope sPlanned) .none kVplanned dcplanned pmplanned anplanned cdplanned ctplanned), slplanned⟩)
    (cplanned : PySem.W.codeIn K cdplanned "_law_planned" = true)
    (kplanned : PySem.W.keepIn K (.ref fplanned) = true)
    (aheard : PySem.W.nsIn K mainGlobals "_law_heard" = some (some (.ref fheard)))
    (lheard : K.lookup fheard = some ⟨ocheard, odheard, .func (PySem.W.fnOf "_law_heard" "_law_heard" (defArgs sHeard) (defBody sHeard) (defScope sHeard) .none kVheard dcheard pmheard anheard cdheard ctheard), slheard⟩)
    (cheard : PySem.W.codeIn K cdheard "_law_heard" = true)
    (kheard : PySem.W.keepIn K (.ref fheard) = true)
    (alis : PySem.W.nsIn K mainGlobals "_law_is_name" = some (some (.ref flis)))
    (llis : K.lookup flis = some ⟨oclis, odlis, .func (PySem.W.fnOf "_law_is_name" "_law_is_name" (defArgs sLIsName) (defBody sLIsName) (defScope sLIsName) .none kVlis dclis pmlis anlis cdlis ctlis), sllis⟩)
    (clis : PySem.W.codeIn K cdlis "_law_is_name" = true)
    (klis : PySem.W.keepIn K (.ref flis) = true)
    (almo : PySem.W.nsIn K mainGlobals "_law_is_moment" = some (some (.ref flmo)))
    (llmo : K.lookup flmo = some ⟨oclmo, odlmo, .func (PySem.W.fnOf "_law_is_moment" "_law_is_moment" (defArgs sLIsMom) (defBody sLIsMom) (defScope sLIsMom) .none kVlmo dclmo pmlmo anlmo cdlmo ctlmo), sllmo⟩)
    (clmo : PySem.W.codeIn K cdlmo "_law_is_moment" = true)
    (klmo : PySem.W.keepIn K (.ref flmo) = true)
    (afits : PySem.W.nsIn K mainGlobals "_law_fits" = some (some (.ref ffits)))
    (lfits : K.lookup ffits = some ⟨ocfits, odfits, .func (PySem.W.fnOf "_law_fits" "_law_fits" (defArgs sFits) (defBody sFits) (defScope sFits) .none kVfits dcfits pmfits anfits cdfits ctfits), slfits⟩)
    (cfits : PySem.W.codeIn K cdfits "_law_fits" = true)
    (kfits : PySem.W.keepIn K (.ref ffits) = true)
    (alread : PySem.W.nsIn K mainGlobals "_law_read" = some (some (.ref flread)))
    (llread : K.lookup flread = some ⟨oclread, odlread, .func (PySem.W.fnOf "_law_read" "_law_read" (defArgs sLRead) (defBody sLRead) (defScope sLRead) .none kVlread dclread pmlread anlread cdlread ctlread), sllread⟩)
    (clread : PySem.W.codeIn K cdlread "_law_read" = true)
    (klread : PySem.W.keepIn K (.ref flread) = true)
    (adue : PySem.W.nsIn K mainGlobals "_law_due" = some (some (.ref fdue)))
    (ldue : K.lookup fdue = some ⟨ocdue, oddue, .func (PySem.W.fnOf "_law_due" "_law_due" (defArgs sDue) (defBody sDue) (defScope sDue) .none kVdue dcdue pmdue andue cddue ctdue), sldue⟩)
    (cdue : PySem.W.codeIn K cddue "_law_due" = true)
    (kdue : PySem.W.keepIn K (.ref fdue) = true)
    (abent : PySem.W.nsIn K mainGlobals "_law_bent" = some (some (.ref fbent)))
    (lbent : K.lookup fbent = some ⟨ocbent, odbent, .func (PySem.W.fnOf "_law_bent" "_law_bent" (defArgs sBent) (defBody sBent) (defScope sBent) .none kVbent dcbent pmbent anbent cdbent ctbent), slbent⟩)
    (cbent : PySem.W.codeIn K cdbent "_law_bent" = true)
    (kbent : PySem.W.keepIn K (.ref fbent) = true)
    (alaw : PySem.W.nsIn K mainGlobals "law" = some (some (.ref flaw)))
    (llaw : K.lookup flaw = some ⟨oclaw, odlaw, .func (PySem.W.fnOf "law" "law" (defArgs sLaw) (defBody sLaw) (defScope sLaw) .none kVlaw dclaw pmlaw anlaw cdlaw ctlaw), sllaw⟩)
    (claw : PySem.W.codeIn K cdlaw "law" = true)
    (klaw : PySem.W.keepIn K (.ref flaw) = true)
    (awhole : PySem.W.nsIn K mainGlobals "is_whole" = some (some (.ref fwhole)))
    (lwhole : K.lookup fwhole = some ⟨ocwhole, odwhole, .func (PySem.W.fnOf "is_whole" "is_whole" (defArgs sWhole) (defBody sWhole) (defScope sWhole) .none kVwhole dcwhole pmwhole anwhole cdwhole ctwhole), slwhole⟩)
    (cwhole : PySem.W.codeIn K cdwhole "is_whole" = true)
    (kwhole : PySem.W.keepIn K (.ref fwhole) = true)
    (amoment : PySem.W.nsIn K mainGlobals "is_moment" = some (some (.ref fmoment)))
    (lmoment : K.lookup fmoment = some ⟨ocmoment, odmoment, .func (PySem.W.fnOf "is_moment" "is_moment" (defArgs sMoment) (defBody sMoment) (defScope sMoment) .none kVmoment dcmoment pmmoment anmoment cdmoment ctmoment), slmoment⟩)
    (cmoment : PySem.W.codeIn K cdmoment "is_moment" = true)
    (kmoment : PySem.W.keepIn K (.ref fmoment) = true)
    (aname : PySem.W.nsIn K mainGlobals "is_name" = some (some (.ref fname)))
    (lname : K.lookup fname = some ⟨ocname, odname, .func (PySem.W.fnOf "is_name" "is_name" (defArgs sName) (defBody sName) (defScope sName) .none kVname dcname pmname anname cdname ctname), slname⟩)
    (cname : PySem.W.codeIn K cdname "is_name" = true)
    (kname : PySem.W.keepIn K (.ref fname) = true)
    (acheck : PySem.W.nsIn K mainGlobals "check_form" = some (some (.ref fcheck)))
    (lcheck : K.lookup fcheck = some ⟨occheck, odcheck, .func (PySem.W.fnOf "check_form" "check_form" (defArgs sCheck) (defBody sCheck) (defScope sCheck) .none kVcheck dccheck pmcheck ancheck cdcheck ctcheck), slcheck⟩)
    (ccheck : PySem.W.codeIn K cdcheck "check_form" = true)
    (kcheck : PySem.W.keepIn K (.ref fcheck) = true)
    (anumber : PySem.W.nsIn K mainGlobals "is_number" = some (some (.ref fnumber)))
    (lnumber : K.lookup fnumber = some ⟨ocnumber, odnumber, .func (PySem.W.fnOf "is_number" "is_number" (defArgs sNumber) (defBody sNumber) (defScope sNumber) .none kVnumber dcnumber pmnumber annumber cdnumber ctnumber), slnumber⟩)
    (cnumber : PySem.W.codeIn K cdnumber "is_number" = true)
    (knumber : PySem.W.keepIn K (.ref fnumber) = true)
    (ahasf : PySem.W.nsIn K mainGlobals "has_form" = some (some (.ref fhasf)))
    (lhasf : K.lookup fhasf = some ⟨ochasf, odhasf, .func (PySem.W.fnOf "has_form" "has_form" (defArgs sHasForm) (defBody sHasForm) (defScope sHasForm) .none kVhasf dchasf pmhasf anhasf cdhasf cthasf), slhasf⟩)
    (chasf : PySem.W.codeIn K cdhasf "has_form" = true)
    (khasf : PySem.W.keepIn K (.ref fhasf) = true)
    (alines : PySem.W.nsIn K mainGlobals "lines_of" = some (some (.ref flines)))
    (llines : K.lookup flines = some ⟨oclines, odlines, .func (PySem.W.fnOf "lines_of" "lines_of" (defArgs sLines) (defBody sLines) (defScope sLines) .none kVlines dclines pmlines anlines cdlines ctlines), sllines⟩)
    (clines : PySem.W.codeIn K cdlines "lines_of" = true)
    (klines : PySem.W.keepIn K (.ref flines) = true)
    (aalone : PySem.W.nsIn K mainGlobals "check_alone" = some (some (.ref falone)))
    (lalone : K.lookup falone = some ⟨ocalone, odalone, .func (PySem.W.fnOf "check_alone" "check_alone" (defArgs sAlone) (defBody sAlone) (defScope sAlone) .none kValone dcalone pmalone analone cdalone ctalone), slalone⟩)
    (calone : PySem.W.codeIn K cdalone "check_alone" = true)
    (kalone : PySem.W.keepIn K (.ref falone) = true)
    (afirst : PySem.W.nsIn K mainGlobals "first_wrong" = some (some (.ref ffirst)))
    (lfirst : K.lookup ffirst = some ⟨ocfirst, odfirst, .func (PySem.W.fnOf "first_wrong" "first_wrong" (defArgs sFirst) (defBody sFirst) (defScope sFirst) .none kVfirst dcfirst pmfirst anfirst cdfirst ctfirst), slfirst⟩)
    (cfirst : PySem.W.codeIn K cdfirst "first_wrong" = true)
    (kfirst : PySem.W.keepIn K (.ref ffirst) = true)
    (atold : PySem.W.nsIn K mainGlobals "told_by" = some (some (.ref ftold)))
    (ltold : K.lookup ftold = some ⟨octold, odtold, .func (PySem.W.fnOf "told_by" "told_by" (defArgs sTold) (defBody sTold) (defScope sTold) .none kVtold dctold pmtold antold cdtold cttold), sltold⟩)
    (ctold : PySem.W.codeIn K cdtold "told_by" = true)
    (ktold : PySem.W.keepIn K (.ref ftold) = true)
    (avalof : PySem.W.nsIn K mainGlobals "value_of" = some (some (.ref fvalof)))
    (lvalof : K.lookup fvalof = some ⟨ocvalof, odvalof, .func (PySem.W.fnOf "value_of" "value_of" (defArgs sValueOf) (defBody sValueOf) (defScope sValueOf) .none kVvalof dcvalof pmvalof anvalof cdvalof ctvalof), slvalof⟩)
    (cvalof : PySem.W.codeIn K cdvalof "value_of" = true)
    (kvalof : PySem.W.keepIn K (.ref fvalof) = true)
    (abt : PySem.W.nsIn K mainGlobals "branch_text" = some (some (.ref fbt)))
    (lbt : K.lookup fbt = some ⟨ocbt, odbt, .func (PySem.W.fnOf "branch_text" "branch_text" (defArgs sBT) (defBody sBT) (defScope sBT) .none kVbt dcbt pmbt anbt cdbt ctbt), slbt⟩)
    (cbt : PySem.W.codeIn K cdbt "branch_text" = true)
    (kbt : PySem.W.keepIn K (.ref fbt) = true)
    (afrom : PySem.W.nsIn K mainGlobals "plan_from" = some (some (.ref ffrom)))
    (lfrom : K.lookup ffrom = some ⟨ocfrom, odfrom, .func (PySem.W.fnOf "plan_from" "plan_from" (defArgs sFrom) (defBody sFrom) (defScope sFrom) .none kVfrom dcfrom pmfrom anfrom cdfrom ctfrom), slfrom⟩)
    (cfrom : PySem.W.codeIn K cdfrom "plan_from" = true)
    (kfrom : PySem.W.keepIn K (.ref ffrom) = true)
    (aptext : PySem.W.nsIn K mainGlobals "plan_text" = some (some (.ref fptext)))
    (lptext : K.lookup fptext = some ⟨ocptext, odptext, .func (PySem.W.fnOf "plan_text" "plan_text" (defArgs sPText) (defBody sPText) (defScope sPText) .none kVptext dcptext pmptext anptext cdptext ctptext), slptext⟩)
    (cptext : PySem.W.codeIn K cdptext "plan_text" = true)
    (kptext : PySem.W.keepIn K (.ref fptext) = true)
    (aCE : PySem.W.nsIn K mainGlobals "Entry" = some (some (.ref CE)))
    (pgCE : PySem.W.plainGet K CE Str.empty = true)
    (hdCE : PySem.W.hasDictIn K CE = true)
    (poCE : PySem.W.plainOver K CE = true)
    (saCE : PySem.W.findIn K (.ref CE) "__setattr__" = some (some (.builtin "object.__setattr__")))
    (mkCE : PySem.W.makesIn K CE = true)
    (kcCE : PySem.W.keepIn K (.ref CE) = true)
    (nCE_tool : PySem.W.findIn K (.ref CE) "tool" = some none)
    (nCE_moment : PySem.W.findIn K (.ref CE) "moment" = some none)
    (nCE_by : PySem.W.findIn K (.ref CE) "by" = some none)
    (thn : PySem.W.specialIn K (.builtin "object.__class__") "__get__" = some (some (.builtin "getset_descriptor.__get__")))
    (tht : PySem.W.takesIn K (.builtin "object.__class__") = some true)
    (thaCE : PySem.W.findIn K (.ref CE) "__class__" = some (some (.builtin "object.__class__")))
    (thmCE : PySem.W.mroIn K CE (.type "object") = some true)
    (hclsCE : PySem.W.isClsIn K CE = true)
    (htypCE : PySem.W.typeIn K (.ref CE) = some (.type "type"))
    (ainit : PySem.W.findIn K (.ref CE) "__init__" = some (some (.ref finit)))
    (iinit : PySem.W.isFn K (.ref finit) = true)
    (linit : K.lookup finit = some ⟨ocinit, odinit, .func (PySem.W.fnOf "__init__" "Entry.__init__" (defArgs sInit) (defBody sInit) (defScope sInit) .none kVinit dcinit pminit aninit cdinit ctinit), slinit⟩)
    (cinit : PySem.W.codeIn K cdinit "Entry.__init__" = true)
    (kinit : PySem.W.keepIn K (.ref finit) = true)
    (aeq : PySem.W.findIn K (.ref CE) "__eq__" = some (some (.ref feq)))
    (ieq : PySem.W.isFn K (.ref feq) = true)
    (leq : K.lookup feq = some ⟨oceq, odeq, .func (PySem.W.fnOf "__eq__" "Entry.__eq__" (defArgs sEq) (defBody sEq) (defScope sEq) .none kVeq dceq pmeq aneq cdeq cteq), sleq⟩)
    (ceq : PySem.W.codeIn K cdeq "Entry.__eq__" = true)
    (keq : PySem.W.keepIn K (.ref feq) = true)
    (astr : PySem.W.findIn K (.ref CE) "__str__" = some (some (.ref fstr)))
    (istr : PySem.W.isFn K (.ref fstr) = true)
    (lstr : K.lookup fstr = some ⟨ocstr, odstr, .func (PySem.W.fnOf "__str__" "Entry.__str__" (defArgs sStr) (defBody sStr) (defScope sStr) .none kVstr dcstr pmstr anstr cdstr ctstr), slstr⟩)
    (cstr : PySem.W.codeIn K cdstr "Entry.__str__" = true)
    (kstr : PySem.W.keepIn K (.ref fstr) = true)
    (aC : PySem.W.nsIn K mainGlobals "Plan" = some (some (.ref C)))
    (pgC : PySem.W.plainGet K C Str.empty = true)
    (hdC : PySem.W.hasDictIn K C = true)
    (poC : PySem.W.plainOver K C = true)
    (saC : PySem.W.findIn K (.ref C) "__setattr__" = some (some (.builtin "object.__setattr__")))
    (mkC : PySem.W.makesIn K C = true)
    (kcC : PySem.W.keepIn K (.ref C) = true)
    (nC_entry : PySem.W.findIn K (.ref C) "entry" = some none)
    (nC__passed : PySem.W.findIn K (.ref C) "_passed" = some none)
    (nC__failed : PySem.W.findIn K (.ref C) "_failed" = some none)
    (thaC : PySem.W.findIn K (.ref C) "__class__" = some (some (.builtin "object.__class__")))
    (thmC : PySem.W.mroIn K C (.type "object") = some true)
    (hclsC : PySem.W.isClsIn K C = true)
    (htypC : PySem.W.typeIn K (.ref C) = some (.type "type"))
    (rdC : PySem.W.readsIn K C (.type "type") = true)
    (gaC : PySem.W.specialIn K (.ref C) "__getattribute__" = some (some (.builtin "type.__getattribute__")))
    (apinit : PySem.W.findIn K (.ref C) "__init__" = some (some (.ref fpinit)))
    (ipinit : PySem.W.isFn K (.ref fpinit) = true)
    (lpinit : K.lookup fpinit = some ⟨ocpinit, odpinit, .func (PySem.W.fnOf "__init__" "Plan.__init__" (defArgs sPInit) (defBody sPInit) (defScope sPInit) .none kVpinit dcpinit pmpinit anpinit cdpinit ctpinit), slpinit⟩)
    (cpinit : PySem.W.codeIn K cdpinit "Plan.__init__" = true)
    (kpinit : PySem.W.keepIn K (.ref fpinit) = true)
    (appass : PySem.W.findIn K (.ref C) "passed" = some (some (.ref pppass)))
    (gppass : PySem.W.specialIn K (.ref pppass) "__get__" = some (some (.builtin "property.__get__")))
    (tppass : PySem.W.takesIn K (.ref pppass) = some true)
    (rppass : PySem.W.recIn K pppass "property" = some (.ref fppass :: restppass))
    (lppass : K.lookup fppass = some ⟨ocppass, odppass, .func (PySem.W.fnOf "passed" "Plan.passed" (defArgs sPPass) (defBody sPPass) (defScope sPPass) .none kVppass dcppass pmppass anppass cdppass ctppass), slppass⟩)
    (cppass : PySem.W.codeIn K cdppass "Plan.passed" = true)
    (kppass : PySem.W.keepIn K (.ref fppass) = true)
    (apfail : PySem.W.findIn K (.ref C) "failed" = some (some (.ref ppfail)))
    (gpfail : PySem.W.specialIn K (.ref ppfail) "__get__" = some (some (.builtin "property.__get__")))
    (tpfail : PySem.W.takesIn K (.ref ppfail) = some true)
    (rpfail : PySem.W.recIn K ppfail "property" = some (.ref fpfail :: restpfail))
    (lpfail : K.lookup fpfail = some ⟨ocpfail, odpfail, .func (PySem.W.fnOf "failed" "Plan.failed" (defArgs sPFail) (defBody sPFail) (defScope sPFail) .none kVpfail dcpfail pmpfail anpfail cdpfail ctpfail), slpfail⟩)
    (cpfail : PySem.W.codeIn K cdpfail "Plan.failed" = true)
    (kpfail : PySem.W.keepIn K (.ref fpfail) = true)
    (atpdone : PySem.W.findCls K (.ref C) (.type "type") "done" = some (.get (.builtin "staticmethod.__get__") (.ref ppdone) .none (.ref C)))
    (rcpdone : PySem.W.recIn K ppdone "staticmethod" = some (.ref fpdone :: restpdone))
    (lpdone : K.lookup fpdone = some ⟨ocpdone, odpdone, .func (PySem.W.fnOf "done" "Plan.done" (defArgs sPDone) (defBody sPDone) (defScope sPDone) .none kVpdone dcpdone pmpdone anpdone cdpdone ctpdone), slpdone⟩)
    (cpdone : PySem.W.codeIn K cdpdone "Plan.done" = true)
    (kpdone : PySem.W.keepIn K (.ref fpdone) = true)
    (atpask : PySem.W.findCls K (.ref C) (.type "type") "ask" = some (.get (.builtin "staticmethod.__get__") (.ref ppask) .none (.ref C)))
    (rcpask : PySem.W.recIn K ppask "staticmethod" = some (.ref fpask :: restpask))
    (lpask : K.lookup fpask = some ⟨ocpask, odpask, .func (PySem.W.fnOf "ask" "Plan.ask" (defArgs sPAsk) (defBody sPAsk) (defScope sPAsk) .none kVpask dcpask pmpask anpask cdpask ctpask), slpask⟩)
    (cpask : PySem.W.codeIn K cdpask "Plan.ask" = true)
    (kpask : PySem.W.keepIn K (.ref fpask) = true)
    (atpread : PySem.W.findCls K (.ref C) (.type "type") "read" = some (.get (.builtin "classmethod.__get__") (.ref ppread) .none (.ref C)))
    (rcpread : PySem.W.recIn K ppread "classmethod" = some (.ref fpread :: restpread))
    (fipread : PySem.W.fnIn K fpread = true)
    (lpread : K.lookup fpread = some ⟨ocpread, odpread, .func (PySem.W.fnOf "read" "Plan.read" (defArgs sPRead) (defBody sPRead) (defScope sPRead) .none kVpread dcpread pmpread anpread cdpread ctpread), slpread⟩)
    (cpread : PySem.W.codeIn K cdpread "Plan.read" = true)
    (kpread : PySem.W.keepIn K (.ref fpread) = true)
    (apeq : PySem.W.findIn K (.ref C) "__eq__" = some (some (.ref fpeq)))
    (ipeq : PySem.W.isFn K (.ref fpeq) = true)
    (lpeq : K.lookup fpeq = some ⟨ocpeq, odpeq, .func (PySem.W.fnOf "__eq__" "Plan.__eq__" (defArgs sPEq) (defBody sPEq) (defScope sPEq) .none kVpeq dcpeq pmpeq anpeq cdpeq ctpeq), slpeq⟩)
    (cpeq : PySem.W.codeIn K cdpeq "Plan.__eq__" = true)
    (kpeq : PySem.W.keepIn K (.ref fpeq) = true)
    (apstr : PySem.W.findIn K (.ref C) "__str__" = some (some (.ref fpstr)))
    (ipstr : PySem.W.isFn K (.ref fpstr) = true)
    (lpstr : K.lookup fpstr = some ⟨ocpstr, odpstr, .func (PySem.W.fnOf "__str__" "Plan.__str__" (defArgs sPStr) (defBody sPStr) (defScope sPStr) .none kVpstr dcpstr pmpstr anpstr cdpstr ctpstr), slpstr⟩)
    (cpstr : PySem.W.codeIn K cdpstr "Plan.__str__" = true)
    (kpstr : PySem.W.keepIn K (.ref fpstr) = true)
    (pne : PySem.W.findIn K (.ref C) "__ne__" = some (some (.builtin "object.__ne__")))
    (kStr : PySem.W.subIn K (.ref C) (.type "str") = some false)
    (gG : PySem.W.nsIn K mainGlobals "GREATEST" = some (some (.int 1000000000000000000000000000000 tG)))
    (gL : PySem.W.nsIn K mainGlobals "LONGEST_NAME" = some (some (.int 8 tL)))
    (gA : PySem.W.nsIn K mainGlobals "LETTERS" = some (some (.str letters tA)))
    (gD : PySem.W.nsIn K mainGlobals "DIGITS" = some (some (.str digits tD)))
    (gN : PySem.W.nsIn K mainGlobals "NO_NAMES" = some (some (.ref aNo)))
    (lN : K.lookup aNo = some ⟨.type "tuple", odN, .seq itsN nN, slN⟩)
    (vN : itsN.toList.map strOf? = noNames.map some)
    (gLN : PySem.W.nsIn K mainGlobals "LONGEST_NUMBER" = some (some (.int 31 tLN)))
    (gME : PySem.W.nsIn K mainGlobals "MOST_ENTRIES" = some (some (.int 4 tME)))
    (gK : PySem.W.nsIn K mainGlobals "CHECK" = some (some (.ref aK)))
    (lK : K.lookup aK = some ⟨.type "tuple", odK, .seq itsK nK, slK⟩)
    (vK : itsK.toList.map strOf? = F5.map some)
    (b_isinstance : PySem.W.nsIn K mainGlobals "isinstance" = some none)
    (b_int : PySem.W.nsIn K mainGlobals "int" = some none)
    (b_bool : PySem.W.nsIn K mainGlobals "bool" = some none)
    (b_str : PySem.W.nsIn K mainGlobals "str" = some none)
    (b_len : PySem.W.nsIn K mainGlobals "len" = some none)
    (b_all : PySem.W.nsIn K mainGlobals "all" = some none)
    (b_range : PySem.W.nsIn K mainGlobals "range" = some none)
    (b_repr : PySem.W.nsIn K mainGlobals "repr" = some none)
    (b_list : PySem.W.nsIn K mainGlobals "list" = some none)
    (b_abs : PySem.W.nsIn K mainGlobals "abs" = some none)
    (b_enumerate : PySem.W.nsIn K mainGlobals "enumerate" = some none)
    (b_zip : PySem.W.nsIn K mainGlobals "zip" = some none)
    (b_ValueError : PySem.W.nsIn K mainGlobals "ValueError" = some none)
    (aT : PySem.W.nsIn K mainGlobals "TillError" = some (some (.ref CT)))
    (iT : PySem.W.isClsIn K CT = true)
    (tT : PySem.W.typeIn K (.ref CT) = some (.type "type"))
    (eT : PySem.W.subIn K (.ref CT) (.type "BaseException") = some true)
    (sT : PySem.W.subIn K (.ref CT) (.ref CT) = some true)
    (aN : PySem.W.nsIn K mainGlobals "BadName" = some (some (.ref CN)))
    (xN : K.lookup CN = some (excClassObj nmN qN CN NN bsN [.ref CT, .type "ValueError", .type "Exception", .type "BaseException", .type "object"] true snN subN abN colN ddN m0N m1N m2N m3N m5N "ValueError.__new__"))
    (seN : PySem.W.findIn K (.ref CN) "__setattr__" = some (some (.builtin "object.__setattr__")))
    (geN : PySem.W.findIn K (.ref CN) "__getattribute__" = some (some (.builtin "BaseException.__getattribute__")))
    (heN : PySem.W.findIn K (.ref CN) "__getattr__" = some none)
    (neN : PySem.W.findIn K (.ref CN) "name" = some none)
    (aeN : PySem.W.findIn K (.ref CN) "__init__" = some (some (.ref feN)))
    (teN : PySem.W.typeIn K (.ref feN) = some (.type "function"))
    (leN : K.lookup feN = some ⟨oceN, odeN, .func (PySem.W.fnOf "__init__" "BadName.__init__" (defArgs sEN) (defBody sEN) (defScope sEN) .none kVeN dceN pmeN aneN cdeN cteN), sleN⟩)
    (ceN : PySem.W.codeIn K cdeN "BadName.__init__" = true)
    (keN : PySem.W.keepIn K (.ref feN) = true)
    (kkeN : PySem.W.keepIn K (.ref CN) = true)
    (exeN : PySem.W.subIn K (.ref CN) (.type "BaseException") = some true)
    (tyeN : PySem.W.typeIn K (.ref CN) = some (.type "type"))
    (hdeN : PySem.W.hasDictIn K CN = true)
    (iceN : PySem.W.isClsIn K CN = true)
    (veeN : PySem.W.subIn K (.ref CN) (.type "ValueError") = some true)
    (uteN : PySem.W.subIn K (.ref CN) (.ref CT) = some true)
    (caeN : PySem.W.findIn K (.ref CN) "__class__" = some (some (.builtin "object.__class__")))
    (cmeN : PySem.W.mroIn K CN (.type "object") = some true)
    (aM : PySem.W.nsIn K mainGlobals "BadMoment" = some (some (.ref CM)))
    (xM : K.lookup CM = some (excClassObj nmM qM CM NM bsM [.ref CT, .type "ValueError", .type "Exception", .type "BaseException", .type "object"] true snM subM abM colM ddM m0M m1M m2M m3M m5M "ValueError.__new__"))
    (seM : PySem.W.findIn K (.ref CM) "__setattr__" = some (some (.builtin "object.__setattr__")))
    (geM : PySem.W.findIn K (.ref CM) "__getattribute__" = some (some (.builtin "BaseException.__getattribute__")))
    (heM : PySem.W.findIn K (.ref CM) "__getattr__" = some none)
    (neM : PySem.W.findIn K (.ref CM) "moment" = some none)
    (aeM : PySem.W.findIn K (.ref CM) "__init__" = some (some (.ref feM)))
    (teM : PySem.W.typeIn K (.ref feM) = some (.type "function"))
    (leM : K.lookup feM = some ⟨oceM, odeM, .func (PySem.W.fnOf "__init__" "BadMoment.__init__" (defArgs sEM) (defBody sEM) (defScope sEM) .none kVeM dceM pmeM aneM cdeM cteM), sleM⟩)
    (ceM : PySem.W.codeIn K cdeM "BadMoment.__init__" = true)
    (keM : PySem.W.keepIn K (.ref feM) = true)
    (kkeM : PySem.W.keepIn K (.ref CM) = true)
    (exeM : PySem.W.subIn K (.ref CM) (.type "BaseException") = some true)
    (tyeM : PySem.W.typeIn K (.ref CM) = some (.type "type"))
    (hdeM : PySem.W.hasDictIn K CM = true)
    (iceM : PySem.W.isClsIn K CM = true)
    (veeM : PySem.W.subIn K (.ref CM) (.type "ValueError") = some true)
    (uteM : PySem.W.subIn K (.ref CM) (.ref CT) = some true)
    (caeM : PySem.W.findIn K (.ref CM) "__class__" = some (some (.builtin "object.__class__")))
    (cmeM : PySem.W.mroIn K CM (.type "object") = some true)
    (aS : PySem.W.nsIn K mainGlobals "BadSaying" = some (some (.ref CS)))
    (xS : K.lookup CS = some (excClassObj nmS qS CS NS bsS [.ref CT, .type "ValueError", .type "Exception", .type "BaseException", .type "object"] true snS subS abS colS ddS m0S m1S m2S m3S m5S "ValueError.__new__"))
    (seS : PySem.W.findIn K (.ref CS) "__setattr__" = some (some (.builtin "object.__setattr__")))
    (geS : PySem.W.findIn K (.ref CS) "__getattribute__" = some (some (.builtin "BaseException.__getattribute__")))
    (heS : PySem.W.findIn K (.ref CS) "__getattr__" = some none)
    (neS : PySem.W.findIn K (.ref CS) "value" = some none)
    (aeS : PySem.W.findIn K (.ref CS) "__init__" = some (some (.ref feS)))
    (teS : PySem.W.typeIn K (.ref feS) = some (.type "function"))
    (leS : K.lookup feS = some ⟨oceS, odeS, .func (PySem.W.fnOf "__init__" "BadSaying.__init__" (defArgs sES) (defBody sES) (defScope sES) .none kVeS dceS pmeS aneS cdeS cteS), sleS⟩)
    (ceS : PySem.W.codeIn K cdeS "BadSaying.__init__" = true)
    (keS : PySem.W.keepIn K (.ref feS) = true)
    (kkeS : PySem.W.keepIn K (.ref CS) = true)
    (exeS : PySem.W.subIn K (.ref CS) (.type "BaseException") = some true)
    (tyeS : PySem.W.typeIn K (.ref CS) = some (.type "type"))
    (hdeS : PySem.W.hasDictIn K CS = true)
    (iceS : PySem.W.isClsIn K CS = true)
    (veeS : PySem.W.subIn K (.ref CS) (.type "ValueError") = some true)
    (uteS : PySem.W.subIn K (.ref CS) (.ref CT) = some true)
    (caeS : PySem.W.findIn K (.ref CS) "__class__" = some (some (.builtin "object.__class__")))
    (cmeS : PySem.W.mroIn K CS (.type "object") = some true)
    (aB : PySem.W.nsIn K mainGlobals "BadText" = some (some (.ref CB)))
    (xB : K.lookup CB = some (excClassObj nmB qB CB NB bsB [.ref CT, .type "ValueError", .type "Exception", .type "BaseException", .type "object"] true snB subB abB colB ddB m0B m1B m2B m3B m5B "ValueError.__new__"))
    (seB : PySem.W.findIn K (.ref CB) "__setattr__" = some (some (.builtin "object.__setattr__")))
    (geB : PySem.W.findIn K (.ref CB) "__getattribute__" = some (some (.builtin "BaseException.__getattribute__")))
    (heB : PySem.W.findIn K (.ref CB) "__getattr__" = some none)
    (neB : PySem.W.findIn K (.ref CB) "line" = some none)
    (oeB : PySem.W.findIn K (.ref CB) "word" = some none)
    (aeB : PySem.W.findIn K (.ref CB) "__init__" = some (some (.ref feB)))
    (teB : PySem.W.typeIn K (.ref feB) = some (.type "function"))
    (leB : K.lookup feB = some ⟨oceB, odeB, .func (PySem.W.fnOf "__init__" "BadText.__init__" (defArgs sEB) (defBody sEB) (defScope sEB) .none kVeB dceB pmeB aneB cdeB cteB), sleB⟩)
    (ceB : PySem.W.codeIn K cdeB "BadText.__init__" = true)
    (keB : PySem.W.keepIn K (.ref feB) = true)
    (kkeB : PySem.W.keepIn K (.ref CB) = true)
    (exeB : PySem.W.subIn K (.ref CB) (.type "BaseException") = some true)
    (tyeB : PySem.W.typeIn K (.ref CB) = some (.type "type"))
    (hdeB : PySem.W.hasDictIn K CB = true)
    (iceB : PySem.W.isClsIn K CB = true)
    (veeB : PySem.W.subIn K (.ref CB) (.type "ValueError") = some true)
    (uteB : PySem.W.subIn K (.ref CB) (.ref CT) = some true)
    (caeB : PySem.W.findIn K (.ref CB) "__class__" = some (some (.builtin "object.__class__")))
    (cmeB : PySem.W.mroIn K CB (.type "object") = some true)
    : ∃ (fd : FuncData), (∀ (s : Shared) (v : Value), BindsTo s fd ⟨[v], []⟩ [("_law_script", v)]) ∧
      ∀ base : Heap, K.In base → base.Ns mainGlobals mg → FnG l.prog w K mg base CX0 26 fa fd ["_law_script"] (spLaw K) := by
  have e := hfa.symm.trans (PySem.W.mg_of X G alaw)
  cases e
  have g1 := fun {n : Str} {v : Value} (e : PySem.W.nsIn K mainGlobals n = some (some v)) => PySem.W.mg_of X G e
  have g0 := fun {n : Str} (e : PySem.W.nsIn K mainGlobals n = some none) => PySem.W.mg_none_of X G e
  have F_pen := fun_mk (st := sPen) lpen cpen kpen
  have F_draw := fun_mk (st := sDraw) ldraw cdraw kdraw
  have F_pick := fun_mk (st := sPick) lpick cpick kpick
  have F_tree := fun_mk (st := sTree) ltree ctree ktree
  have F_planned := fun_mk (st := sPlanned) lplanned cplanned kplanned
  have F_heard := fun_mk (st := sHeard) lheard cheard kheard
  have F_lis := fun_mk (st := sLIsName) llis clis klis
  have F_lmo := fun_mk (st := sLIsMom) llmo clmo klmo
  have F_fits := fun_mk (st := sFits) lfits cfits kfits
  have F_lread := fun_mk (st := sLRead) llread clread klread
  have F_due := fun_mk (st := sDue) ldue cdue kdue
  have F_bent := fun_mk (st := sBent) lbent cbent kbent
  have F_law := fun_mk (st := sLaw) llaw claw klaw
  have F_whole := fun_mk (st := sWhole) lwhole cwhole kwhole
  have F_moment := fun_mk (st := sMoment) lmoment cmoment kmoment
  have F_name := fun_mk (st := sName) lname cname kname
  have F_check := fun_mk (st := sCheck) lcheck ccheck kcheck
  have F_number := fun_mk (st := sNumber) lnumber cnumber knumber
  have F_hasf := fun_mk (st := sHasForm) lhasf chasf khasf
  have F_lines := fun_mk (st := sLines) llines clines klines
  have F_alone := fun_mk (st := sAlone) lalone calone kalone
  have F_first := fun_mk (st := sFirst) lfirst cfirst kfirst
  have F_told := fun_mk (st := sTold) ltold ctold ktold
  have F_valof := fun_mk (st := sValueOf) lvalof cvalof kvalof
  have F_bt := fun_mk (st := sBT) lbt cbt kbt
  have F_from := fun_mk (st := sFrom) lfrom cfrom kfrom
  have F_ptext := fun_mk (st := sPText) lptext cptext kptext
  have F_init := fun_mk (st := sInit) linit cinit kinit
  have F_eq := fun_mk (st := sEq) leq ceq keq
  have F_str := fun_mk (st := sStr) lstr cstr kstr
  have F_pinit := fun_mk (st := sPInit) lpinit cpinit kpinit
  have F_ppass := fun_mk (st := sPPass) lppass cppass kppass
  have F_pfail := fun_mk (st := sPFail) lpfail cpfail kpfail
  have F_pdone := fun_mk (st := sPDone) lpdone cpdone kpdone
  have F_pask := fun_mk (st := sPAsk) lpask cpask kpask
  have F_pread := fun_mk (st := sPRead) lpread cpread kpread
  have F_peq := fun_mk (st := sPEq) lpeq cpeq kpeq
  have F_pstr := fun_mk (st := sPStr) lpstr cpstr kpstr
  have F_eN := fun_mk (st := sEN) leN ceN keN
  have F_eM := fun_mk (st := sEM) leM ceM keM
  have F_eS := fun_mk (st := sES) leS ceS keS
  have F_eB := fun_mk (st := sEB) leB ceB keB
  have b_pen_ := F_pen.binds (ps := ["_law_script"]) fun _ _ _ _ _ _ us hl => match us, hl with | [_], _ => rfl
  have b_draw_ := F_draw.binds (ps := ["_law_pen_here", "_law_many"]) fun _ _ _ _ _ _ us hl => match us, hl with | [_, _], _ => rfl
  have b_pick_ := F_pick.binds (ps := ["_law_pen_here", "_law_some"]) fun _ _ _ _ _ _ us hl => match us, hl with | [_, _], _ => rfl
  have b_tree_ := F_tree.binds (ps := ["_law_pen_here", "_law_many", "_law_deep"]) fun _ _ _ _ _ _ us hl => match us, hl with | [_, _, _], _ => rfl
  have b_planned_ := F_planned.binds (ps := ["_law_tree_here", "_law_checks"]) fun _ _ _ _ _ _ us hl => match us, hl with | [_, _], _ => rfl
  have b_heard_ := F_heard.binds (ps := ["_law_page"]) fun _ _ _ _ _ _ us hl => match us, hl with | [_], _ => rfl
  have b_lis_ := F_lis.binds (ps := ["_law_word"]) fun _ _ _ _ _ _ us hl => match us, hl with | [_], _ => rfl
  have b_lmo_ := F_lmo.binds (ps := ["_law_word"]) fun _ _ _ _ _ _ us hl => match us, hl with | [_], _ => rfl
  have b_fits_ := F_fits.binds (ps := ["_law_word", "_law_at"]) fun _ _ _ _ _ _ us hl => match us, hl with | [_, _], _ => rfl
  have b_lread_ := F_lread.binds (ps := ["_law_words", "_law_at", "_law_deep"]) fun _ _ _ _ _ _ us hl => match us, hl with | [_, _, _], _ => rfl
  have b_due_ := F_due.binds (ps := ["_law_page"]) fun _ _ _ _ _ _ us hl => match us, hl with | [_], _ => rfl
  have b_bent_ := F_bent.binds (ps := ["_law_pen_here", "_law_page"]) fun _ _ _ _ _ _ us hl => match us, hl with | [_, _], _ => rfl
  have b_law_ := F_law.binds (ps := ["_law_script"]) fun _ _ _ _ _ _ us hl => match us, hl with | [_], _ => rfl
  have b_whole_ := F_whole.binds (ps := ["value"]) fun _ _ _ _ _ _ us hl => match us, hl with | [_], _ => rfl
  have b_moment_ := F_moment.binds (ps := ["value"]) fun _ _ _ _ _ _ us hl => match us, hl with | [_], _ => rfl
  have b_name_ := F_name.binds (ps := ["value"]) fun _ _ _ _ _ _ us hl => match us, hl with | [_], _ => rfl
  have b_check_ := F_check.binds (ps := ["value", "form"]) fun _ _ _ _ _ _ us hl => match us, hl with | [_, _], _ => rfl
  have b_number_ := F_number.binds (ps := ["word"]) fun _ _ _ _ _ _ us hl => match us, hl with | [_], _ => rfl
  have b_hasf_ := F_hasf.binds (ps := ["word", "form"]) fun _ _ _ _ _ _ us hl => match us, hl with | [_, _], _ => rfl
  have b_lines_ := F_lines.binds (ps := ["text"]) fun _ _ _ _ _ _ us hl => match us, hl with | [_], _ => rfl
  have b_alone_ := F_alone.binds (ps := ["lines"]) fun _ _ _ _ _ _ us hl => match us, hl with | [_], _ => rfl
  have b_first_ := F_first.binds (ps := ["words", "forms"]) fun _ _ _ _ _ _ us hl => match us, hl with | [_, _], _ => rfl
  have b_told_ := F_told.binds (ps := ["line", "words", "forms"]) fun _ _ _ _ _ _ us hl => match us, hl with | [_, _, _], _ => rfl
  have b_valof_ := F_valof.binds (ps := ["word", "form"]) fun _ _ _ _ _ _ us hl => match us, hl with | [_, _], _ => rfl
  have b_bt_ := F_bt.binds (ps := ["branch"]) fun _ _ _ _ _ _ us hl => match us, hl with | [_], _ => rfl
  have b_from_ := F_from.binds (ps := ["words", "at", "checks", "may_be_none"]) fun _ _ _ _ _ _ us hl => match us, hl with | [_, _, _, _], _ => rfl
  have b_ptext_ := F_ptext.binds (ps := ["plan"]) fun _ _ _ _ _ _ us hl => match us, hl with | [_], _ => rfl
  have b_init_ := F_init.binds (ps := ["self", "tool", "moment", "by"]) fun _ _ _ _ _ _ us hl => match us, hl with | [_, _, _, _], _ => rfl
  have b_eq_ := F_eq.binds (ps := ["self", "other"]) fun _ _ _ _ _ _ us hl => match us, hl with | [_, _], _ => rfl
  have b_str_ := F_str.binds (ps := ["self"]) fun _ _ _ _ _ _ us hl => match us, hl with | [_], _ => rfl
  have b_pinit_ := F_pinit.binds (ps := ["self", "entry", "passed", "failed"]) fun _ _ _ _ _ _ us hl => match us, hl with | [_, _, _, _], _ => rfl
  have b_ppass_ := F_ppass.binds (ps := ["self"]) fun _ _ _ _ _ _ us hl => match us, hl with | [_], _ => rfl
  have b_pfail_ := F_pfail.binds (ps := ["self"]) fun _ _ _ _ _ _ us hl => match us, hl with | [_], _ => rfl
  have b_pdone_ := F_pdone.binds (ps := []) fun _ _ _ _ _ _ us hl => match us, hl with | [], _ => rfl
  have b_pask_ := F_pask.binds (ps := ["entry", "passed", "failed"]) fun _ _ _ _ _ _ us hl => match us, hl with | [_, _, _], _ => rfl
  have b_pread_ := F_pread.binds (ps := ["cls", "text"]) fun _ _ _ _ _ _ us hl => match us, hl with | [_, _], _ => rfl
  have b_peq_ := F_peq.binds (ps := ["self", "other"]) fun _ _ _ _ _ _ us hl => match us, hl with | [_, _], _ => rfl
  have b_pstr_ := F_pstr.binds (ps := ["self"]) fun _ _ _ _ _ _ us hl => match us, hl with | [_], _ => rfl
  have b_eN_ := F_eN.binds (ps := ["self", "name"]) fun _ _ _ _ _ _ us hl => match us, hl with | [_, _], _ => rfl
  have b_eM_ := F_eM.binds (ps := ["self", "moment"]) fun _ _ _ _ _ _ us hl => match us, hl with | [_, _], _ => rfl
  have b_eS_ := F_eS.binds (ps := ["self", "value"]) fun _ _ _ _ _ _ us hl => match us, hl with | [_, _], _ => rfl
  have b_eB_ := F_eB.binds (ps := ["self", "line", "word"]) fun _ _ _ _ _ _ us hl => match us, hl with | [_, _, _], _ => rfl
  have L_CE : Cls K CE := ⟨pgCE, hdCE, poCE, saCE⟩
  have L_C : Cls K C := ⟨pgC, hdC, poC, saC⟩
  have P_ppass : PropOf K C "passed" pppass fppass := ⟨appass, gppass, tppass, ⟨_, rppass⟩⟩
  have P_pfail : PropOf K C "failed" ppfail fpfail := ⟨apfail, gpfail, tpfail, ⟨_, rpfail⟩⟩
  have S_pdone : Sta K C (.type "type") "done" ppdone fpdone := ⟨rdC, gaC, atpdone, ⟨_, rcpdone⟩, kpdone⟩
  have S_pask : Sta K C (.type "type") "ask" ppask fpask := ⟨rdC, gaC, atpask, ⟨_, rcpask⟩, kpask⟩
  have M_pread : ClX.CMet K C (.type "type") "read" ppread fpread := ⟨atpread, ⟨_, rcpread⟩, fipread⟩
  have RN : Err K CN := ⟨geN, heN, exeN, hdeN, caeN, thn, tht, cmeN⟩
  have ON : OneE K mg "BadName" "name" CN feN _ := ⟨⟨⟨_, _, _, _, _, _, _, _, _, _, _, _, _, _, _, xN, by rfl⟩, seN, exeN, tyeN, kkeN⟩, aeN, teN, g1 aN, neN, RN, b_eN_⟩
  have RM : Err K CM := ⟨geM, heM, exeM, hdeM, caeM, thn, tht, cmeM⟩
  have OM : OneE K mg "BadMoment" "moment" CM feM _ := ⟨⟨⟨_, _, _, _, _, _, _, _, _, _, _, _, _, _, _, xM, by rfl⟩, seM, exeM, tyeM, kkeM⟩, aeM, teM, g1 aM, neM, RM, b_eM_⟩
  have RS : Err K CS := ⟨geS, heS, exeS, hdeS, caeS, thn, tht, cmeS⟩
  have OS : OneE K mg "BadSaying" "value" CS feS _ := ⟨⟨⟨_, _, _, _, _, _, _, _, _, _, _, _, _, _, _, xS, by rfl⟩, seS, exeS, tyeS, kkeS⟩, aeS, teS, g1 aS, neS, RS, b_eS_⟩
  have RB : Err K CB := ⟨geB, heB, exeB, hdeB, caeB, thn, tht, cmeB⟩
  have OB : TwoE K mg "BadText" "line" "word" CB feB _ := ⟨⟨⟨_, _, _, _, _, _, _, _, _, _, _, _, _, _, _, xB, by rfl⟩, seB, exeB, tyeB, kkeB⟩, aeB, teB, g1 aB, neB, oeB, RB, b_eB_⟩
  have TE : Ent K mg CE := ⟨L_CE, nCE_tool, nCE_moment, nCE_by, g1 aCE, thaCE, thn, tht, thmCE, kit_self⟩
  have TP : Pln K mg C := ⟨L_C, nC_entry, nC__passed, nC__failed, g1 aC, thaC, thn, tht, thmC, kit_self, by simp [PySem.W.notFirst], fun T hT => by
    simp only [List.mem_cons, List.not_mem_nil, or_false] at hT
    rcases hT with h | h | h | h | h | h | h <;> subst h <;> exact ⟨kit_no hclsC htypC (by decide +kernel), notFirst_ty (by decide +kernel)⟩⟩
  have hv := vals_strs vN
  have W : Words K mg := ⟨⟨_, g1 gG⟩, ⟨_, g1 gL⟩, ⟨_, g1 gA⟩, ⟨_, g1 gD⟩, ⟨aNo, g1 gN, fun H => .inr ⟨_, itsN, nN, lN, rfl, rfl, by
    have := hv.length
    rw [List.length_map] at this
    rw [← Array.length_toList, ← this]
    decide, hv⟩⟩, g0 b_isinstance, g0 b_int, g0 b_bool, g0 b_str, g0 b_len, g0 b_all⟩
  have hvK := vals_strs vK
  have hK : ∀ H : Hp, SqT K H aK (F5.map V.str) := fun H => .inr ⟨_, itsK, nK, lK, rfl, rfl, by
    have := hvK.length
    rw [List.length_map] at this
    rw [← Array.length_toList, ← this]
    decide, hvK⟩
  have RR : Errs K mg CN CM CS := ⟨⟨_, _, ON, F_eN⟩, ⟨_, _, OM, F_eM⟩, ⟨_, _, OS, F_eS⟩⟩
  have HR : HrB K mg CT CB := ⟨g1 aT, g1 aB, g0 b_ValueError, g0 b_isinstance, exm_own iT tT eT uteB sT, RB, kit_self, kit_VE veeB, neB, oeB⟩
  have ME : Mk K CE finit := ⟨mkCE, ainit, iinit, kcCE⟩
  have MP : Mk K C fpinit := ⟨mkC, apinit, ipinit, kcC⟩
  have N0 : Env K mg CE C := ⟨W, TE, TP, g0 b_range, g0 b_repr, fun t ht => by
    simp only [List.mem_cons, List.not_mem_nil, or_false] at ht
    rcases ht with h | h | h | h | h | h <;> subst h <;> exact kit_ty (by decide +kernel), kit_str kStr⟩
  refine ⟨PySem.W.fnOf "law" "law" (defArgs sLaw) (defBody sLaw) (defScope sLaw) .none kVlaw dclaw pmlaw anlaw cdlaw ctlaw, fun s v => .of_eq rfl, fun base _ _ => ?_⟩
  have GD := ok_draw (P := l.prog) (w := w) (base := base) F_draw (g0 b_len) (g0 b_int) (g0 b_abs)
  have GPk := ok_pick (P := l.prog) (w := w) (base := base) F_pick (g0 b_len) F_draw b_draw_ (g1 adraw) GD
  have GPen := ok_pen (P := l.prog) (w := w) (base := base) F_pen (g0 b_list)
  have GM := ok_moment (P := l.prog) (w := w) (base := base) F_moment W F_whole b_whole_ (g1 awhole)
  have GN := ok_name (P := l.prog) (w := w) (base := base) F_name W
  have GC := ok_check (P := l.prog) (w := w) (base := base) F_check W RR F_moment b_moment_ (g1 amoment) GM F_name b_name_ (g1 aname) GN
  have GI := ok_init (P := l.prog) (w := w) (base := base) F_init TE F_check b_check_ (g1 acheck) GC
  have GE := ok_eq (P := l.prog) (w := w) (base := base) F_eq W TE
  have GS := ok_str (P := l.prog) (w := w) (base := base) F_str TE
  have GB := ok_two (P := l.prog) (w := w) (base := base) (mg := mg) F_eB OB.T OB.no1 OB.no2 scEB ⟨_, _, _, _, _, _, _, _, rfl⟩ (by decide) (by decide) (by decide) (by decide)
  have GU := ok_number (P := l.prog) (w := w) (base := base) F_number W ⟨_, g1 gLN⟩
  have GHf := ok_hasForm (P := l.prog) (w := w) (base := base) F_hasf F_name b_name_ (g1 aname) GN F_number b_number_ (g1 anumber) GU
  have GFi := ok_first (P := l.prog) (w := w) (base := base) F_first W (g0 b_enumerate) F_hasf b_hasf_ (g1 ahasf) GHf
  have GVo := ok_valueOf (P := l.prog) (w := w) (base := base) F_valof W
  have GTo := ok_told (P := l.prog) (w := w) (base := base) F_told (g0 b_zip) OB GB F_first b_first_ (g1 afirst) GFi F_valof b_valof_ (g1 avalof) GVo
  have GLn := ok_lines (P := l.prog) (w := w) (base := base) F_lines W OB GB
  have GA := ok_alone (P := l.prog) (w := w) (base := base) F_alone W OB GB
  have GPi := ok_pinit (P := l.prog) (w := w) (base := base) F_pinit TP
  have GPp := ok_ppass (P := l.prog) (w := w) (base := base) F_ppass TP
  have GPf := ok_pfail (P := l.prog) (w := w) (base := base) F_pfail TP
  have GDn := ok_pdone (P := l.prog) (w := w) (base := base) (CE := CE) F_pdone TP MP b_pinit_ GPi
  have GAs := ok_pask (P := l.prog) (w := w) (base := base) F_pask W TE TP MP b_pinit_ GPi
  have GFr : FnOk l.prog w K mg base (L2.CX l.prog w) 10 _ _ ["words", "at", "checks", "may_be_none"] (spFrom CE C CB 4) := ok_from (P := l.prog) (w := w) (base := base) F_from (g1 afrom) b_from_ W TE TP ⟨_, g1 gME⟩ (g1 gK) hK OB GB ME b_init_ GI F_first b_first_ (g1 afirst) GFi F_told b_told_ (g1 atold) GTo S_pdone b_pdone_ GDn S_pask b_pask_ GAs 4
  have GRd := ok_pread (P := l.prog) (w := w) (base := base) F_pread W OB GB F_lines b_lines_ (g1 alines) GLn F_alone b_alone_ (g1 aalone) GA F_from (g1 afrom) b_from_ GFr
  have GSt : FnOk l.prog w K mg base CX0 20 _ _ ["self"] (spPStr CE C 4) := ok_pstr (P := l.prog) (w := w) (base := base) F_pstr W TE TP F_bt b_bt_ (g1 abt) apstr ipstr b_pstr_ astr istr b_str_ GS P_ppass b_ppass_ GPp P_pfail b_pfail_ GPf 4
  have GPt := ok_ptext (P := l.prog) (w := w) (base := base) F_ptext W apstr ipstr b_pstr_ GSt
  have GEq : FnOk l.prog w K mg base CX0 8 _ _ ["self", "other"] (spPEq K CE C 4) := ok_peq (P := l.prog) (w := w) (base := base) F_peq W TE TP (by simp [PySem.W.notFirst]) apeq ipeq b_peq_ aeq ieq b_eq_ GE P_ppass b_ppass_ GPp P_pfail b_pfail_ GPf 4
  have GTr : FnOk l.prog w K mg base CX0 6 _ _ ["_law_pen_here", "_law_many", "_law_deep"] (spTree 4) := ok_tree (P := l.prog) (w := w) (base := base) F_tree (g1 atree) b_tree_ F_draw b_draw_ (g1 adraw) GD 4
  have GPl := fnok_ex fun T => (ok_planned (P := l.prog) (w := w) (base := base) T F_planned (g1 aplanned) b_planned_ (g1 aC) S_pdone b_pdone_ GDn S_pask b_pask_ GAs 4 : FnOk l.prog w K mg base CX0 8 _ _ ["_law_tree_here", "_law_checks"] (spPlanned CE C T 4))
  have GLi := ok_lisName (P := l.prog) (w := w) (base := base) F_lis (g0 b_len)
  have GLu := ok_lisMom (P := l.prog) (w := w) (base := base) F_lmo (g0 b_len) (g0 b_int) (g0 b_str)
  have GFt := ok_fits (P := l.prog) (w := w) (base := base) F_fits F_lis b_lis_ (g1 alis) GLi F_lmo b_lmo_ (g1 almo) GLu
  have GLr : FnOk l.prog w K mg base CX0 7 _ _ ["_law_words", "_law_at", "_law_deep"] (spLRead 4) := ok_lread (P := l.prog) (w := w) (base := base) F_lread (g1 alread) b_lread_ (g0 b_len) (g0 b_range) F_fits b_fits_ (g1 afits) GFt 4
  have GDu := ok_due (P := l.prog) (w := w) (base := base) F_due (g0 b_len) F_lread (g1 alread) b_lread_ GLr
  have GBe := ok_bent (P := l.prog) (w := w) (base := base) F_bent (g0 b_len) (g0 b_range) F_draw b_draw_ (g1 adraw) GD F_pick b_pick_ (g1 apick) GPk
  have GH := ok_heard (P := l.prog) (w := w) (base := base) F_heard HR (g1 aC) ⟨rdC, gaC⟩ M_pread b_pread_ GRd
  exact ok_law F_law N0 F_pen b_pen_ (g1 apen) GPen F_draw b_draw_ (g1 adraw) GD F_pick b_pick_ (g1 apick) GPk F_tree b_tree_ (g1 atree) GTr F_planned b_planned_ (g1 aplanned) GPl F_heard b_heard_ (g1 aheard) GH F_bent b_bent_ (g1 abent) GBe F_due b_due_ (g1 adue) GDu
    ME b_init_ GI apeq ipeq b_peq_ GEq pne apstr ipstr b_pstr_ GSt F_ptext b_ptext_ (kb_plan fun s u => .of_eq rfl) (g1 aptext) GPt ⟨rdC, gaC⟩ M_pread b_pread_ (kb_text fun s u w => .of_eq rfl) GRd
theorem walk {l : PySem.W.OpenLaw} {q : Program} {loose : List Str} {XP : (Str → Option Value) → Heap → Prop} {YP : World → Heap → Prop} {d : DefRec} {K : Params → PySem.W.Frag} (hn : l.most = some 63) (hdf : d.params.defaults = []) (hnm : d.name = "law")
    (hY : ∀ (w : World) (h : Heap), YP w h → (K w.params).In h)
    (F : ∀ (w : World) (mg : Str → Option Value) (fa : Addr) (h : Heap), (K w.params).In h → h.Ns mainGlobals mg → mg "law" = some (.ref fa) →
      ∃ (fd : FuncData), (∀ (s : Shared) (u : Value), BindsTo s fd ⟨[u], []⟩ [("_law_script", u)]) ∧ ∀ base : Heap, (K w.params).In base → base.Ns mainGlobals mg → FnG l.prog w (K w.params) mg base CX0 26 fa fd ["_law_script"] (spLaw (K w.params))) :
    PySem.W.WalkO q loose XP YP l.row.toRowW d [] (fun f vs => PySem.call f vs) := by
  refine walk_ofG (CX := fun _ => CX0) (sp := fun w => spLaw (K w.params)) (k := 26) hn (by decide) hdf ⟨rfl, by decide, by decide⟩ hY (fun w mg fa h KX G hmg => F w mg fa h KX G (by rw [hnm] at hmg; exact hmg)) (fun w H a ns hl hb hO hS => ⟨a, ns, rfl, hS, fun _ => rfl⟩) fun _ _ _ _ _ z => z
end K81

open PySem PySem.W PySem.Calls PyProof.Rows
noncomputable def K81.Hk : Hook := kHook K81.dummy.heap_1 K81.as K81.as_eq
theorem K81.left : LeftO K81.R.prog K81.q K81.loose (fun s => xlAt K81.q [] s && recOk (RowW.records K81.R.toRowW) s) (Hook.obs K81.Hk) (Hook.val K81.Hk) 16000 true :=
  HeadRun.left_oneK (M := 15300) (by kernel_rfl) (by rfl) (fun s => by kernel_rfl) (by rfl) (K81.byRowAll "special-get-raises" K81.runF K81.runT)

set_option maxRecDepth 100000 in
set_option maxHeartbeats 0 in
theorem PySem.Challenge.cw_soundtill_k81_plans_read_holds : PySem.Challenge.rw_soundtill_k81_plans_read.Holds := by
  w_on; o_law
  refine PySem.W.holds_open (r := K81.R) (q := K81.q) (loose := K81.loose) (Xt := fun s => xlAt K81.q [] s && recOk (RowW.records K81.R.toRowW) s) (XP := XL K81.q []) (Yf := Hook.obs (kHook K81.dummy.heap_1 K81.as K81.as_eq)) (Ya := Hook.val (kHook K81.dummy.heap_1 K81.as K81.as_eq)) (YP := Hook.says (kHook K81.dummy.heap_1 K81.as K81.as_eq)) (N := 16000) K81.left (Hook.of (kHook K81.dummy.heap_1 K81.as K81.as_eq)) (Hook.keeps (kHook K81.dummy.heap_1 K81.as K81.as_eq)) (fun s e => xl_of s (Bool.and_eq_true_iff.mp e).1) XL.keeps (by rfl) (by rfl) (by rfl) (fun s e => recFacts_of (Bool.and_eq_true_iff.mp e).2) (by rfl) (by first | assumption | decide +kernel) (by decide +kernel) ⟨rfl, rfl, rfl, rfl, rfl, by decide +kernel⟩ ?hw ?hc
  (case hw => w_witness2)
  k_fill
  refine K81.walk (l := PySem.Challenge.rw_soundtill_k81_plans_read) rfl rfl rfl (fun w h Y => PySem.W.kIn_of Y) ?F
  case F =>
    intro w mg fa h KX G hmg
    refine' K81.all_mk KX G hmg ?apen ?lpen ?cpen ?kpen ?adraw ?ldraw ?cdraw ?kdraw ?apick ?lpick ?cpick ?kpick ?atree ?ltree ?ctree ?ktree ?aplanned ?lplanned ?cplanned ?kplanned ?aheard ?lheard ?cheard ?kheard ?alis ?llis ?clis ?klis ?almo ?llmo ?clmo ?klmo ?afits ?lfits ?cfits ?kfits ?alread ?llread ?clread ?klread ?adue ?ldue ?cdue ?kdue ?abent ?lbent ?cbent ?kbent ?alaw ?llaw ?claw ?klaw ?awhole ?lwhole ?cwhole ?kwhole ?amoment ?lmoment ?cmoment ?kmoment ?aname ?lname ?cname ?kname ?acheck ?lcheck ?ccheck ?kcheck ?anumber ?lnumber ?cnumber ?knumber ?ahasf ?lhasf ?chasf ?khasf ?alines ?llines ?clines ?klines ?aalone ?lalone ?calone ?kalone ?afirst ?lfirst ?cfirst ?kfirst ?atold ?ltold ?ctold ?ktold ?avalof ?lvalof ?cvalof ?kvalof ?abt ?lbt ?cbt ?kbt ?afrom ?lfrom ?cfrom ?kfrom ?aptext ?lptext ?cptext ?kptext ?aCE ?pgCE ?hdCE ?poCE ?saCE ?mkCE ?kcCE ?nCE_tool ?nCE_moment ?nCE_by ?thn ?tht ?thaCE ?thmCE ?hclsCE ?htypCE ?ainit ?iinit ?linit ?cinit ?kinit ?aeq ?ieq ?leq ?ceq ?keq ?astr ?istr ?lstr ?cstr ?kstr ?aC ?pgC ?hdC ?poC ?saC ?mkC ?kcC ?nC_entry ?nC__passed ?nC__failed ?thaC ?thmC ?hclsC ?htypC ?rdC ?gaC ?apinit ?ipinit ?lpinit ?cpinit ?kpinit ?appass ?gppass ?tppass ?rppass ?lppass ?cppass ?kppass ?apfail ?gpfail ?tpfail ?rpfail ?lpfail ?cpfail ?kpfail ?atpdone ?rcpdone ?lpdone ?cpdone ?kpdone ?atpask ?rcpask ?lpask ?cpask ?kpask ?atpread ?rcpread ?fipread ?lpread ?cpread ?kpread ?apeq ?ipeq ?lpeq ?cpeq ?kpeq ?apstr ?ipstr ?lpstr ?cpstr ?kpstr ?pne ?kStr ?gG ?gL ?gA ?gD ?gN ?lN ?vN ?gLN ?gME ?gK ?lK ?vK ?b_isinstance ?b_int ?b_bool ?b_str ?b_len ?b_all ?b_range ?b_repr ?b_list ?b_abs ?b_enumerate ?b_zip ?b_ValueError ?aT ?iT ?tT ?eT ?sT ?aN ?xN ?seN ?geN ?heN ?neN ?aeN ?teN ?leN ?ceN ?keN ?kkeN ?exeN ?tyeN ?hdeN ?iceN ?veeN ?uteN ?caeN ?cmeN ?aM ?xM ?seM ?geM ?heM ?neM ?aeM ?teM ?leM ?ceM ?keM ?kkeM ?exeM ?tyeM ?hdeM ?iceM ?veeM ?uteM ?caeM ?cmeM ?aS ?xS ?seS ?geS ?heS ?neS ?aeS ?teS ?leS ?ceS ?keS ?kkeS ?exeS ?tyeS ?hdeS ?iceS ?veeS ?uteS ?caeS ?cmeS ?aB ?xB ?seB ?geB ?heB ?neB ?oeB ?aeB ?teB ?leB ?ceB ?keB ?kkeB ?exeB ?tyeB ?hdeB ?iceB ?veeB ?uteB ?caeB ?cmeB
    (case apen => k_is)
    (case lpen => k_is)
    (case cpen => k_is)
    (case kpen => k_is)
    (case adraw => k_is)
    (case ldraw => k_is)
    (case cdraw => k_is)
    (case kdraw => k_is)
    (case apick => k_is)
    (case lpick => k_is)
    (case cpick => k_is)
    (case kpick => k_is)
    (case atree => k_is)
    (case ltree => k_is)
    (case ctree => k_is)
    (case ktree => k_is)
    (case aplanned => k_is)
    (case lplanned => k_is)
    (case cplanned => k_is)
    (case kplanned => k_is)
    (case aheard => k_is)
    (case lheard => k_is)
    (case cheard => k_is)
    (case kheard => k_is)
    (case alis => k_is)
    (case llis => k_is)
    (case clis => k_is)
    (case klis => k_is)
    (case almo => k_is)
    (case llmo => k_is)
    (case clmo => k_is)
    (case klmo => k_is)
    (case afits => k_is)
    (case lfits => k_is)
    (case cfits => k_is)
    (case kfits => k_is)
    (case alread => k_is)
    (case llread => k_is)
    (case clread => k_is)
    (case klread => k_is)
    (case adue => k_is)
    (case ldue => k_is)
    (case cdue => k_is)
    (case kdue => k_is)
    (case abent => k_is)
    (case lbent => k_is)
    (case cbent => k_is)
    (case kbent => k_is)
    (case alaw => k_is)
    (case llaw => k_is)
    (case claw => k_is)
    (case klaw => k_is)
    (case awhole => k_is)
    (case lwhole => k_is)
    (case cwhole => k_is)
    (case kwhole => k_is)
    (case amoment => k_is)
    (case lmoment => k_is)
    (case cmoment => k_is)
    (case kmoment => k_is)
    (case aname => k_is)
    (case lname => k_is)
    (case cname => k_is)
    (case kname => k_is)
    (case acheck => k_is)
    (case lcheck => k_is)
    (case ccheck => k_is)
    (case kcheck => k_is)
    (case anumber => k_is)
    (case lnumber => k_is)
    (case cnumber => k_is)
    (case knumber => k_is)
    (case ahasf => k_is)
    (case lhasf => k_is)
    (case chasf => k_is)
    (case khasf => k_is)
    (case alines => k_is)
    (case llines => k_is)
    (case clines => k_is)
    (case klines => k_is)
    (case aalone => k_is)
    (case lalone => k_is)
    (case calone => k_is)
    (case kalone => k_is)
    (case afirst => k_is)
    (case lfirst => k_is)
    (case cfirst => k_is)
    (case kfirst => k_is)
    (case atold => k_is)
    (case ltold => k_is)
    (case ctold => k_is)
    (case ktold => k_is)
    (case avalof => k_is)
    (case lvalof => k_is)
    (case cvalof => k_is)
    (case kvalof => k_is)
    (case abt => k_is)
    (case lbt => k_is)
    (case cbt => k_is)
    (case kbt => k_is)
    (case afrom => k_is)
    (case lfrom => k_is)
    (case cfrom => k_is)
    (case kfrom => k_is)
    (case aptext => k_is)
    (case lptext => k_is)
    (case cptext => k_is)
    (case kptext => k_is)
    (case aCE => k_is)
    (case pgCE => k_is)
    (case hdCE => k_is)
    (case poCE => k_is)
    (case saCE => k_is)
    (case mkCE => k_is)
    (case kcCE => k_is)
    (case nCE_tool => k_is)
    (case nCE_moment => k_is)
    (case nCE_by => k_is)
    (case thn => k_is)
    (case tht => k_is)
    (case thaCE => k_is)
    (case thmCE => k_is)
    (case hclsCE => k_is)
    (case htypCE => k_is)
    (case ainit => k_is)
    (case iinit => k_is)
    (case linit => k_is)
    (case cinit => k_is)
    (case kinit => k_is)
    (case aeq => k_is)
    (case ieq => k_is)
    (case leq => k_is)
    (case ceq => k_is)
    (case keq => k_is)
    (case astr => k_is)
    (case istr => k_is)
    (case lstr => k_is)
    (case cstr => k_is)
    (case kstr => k_is)
    (case aC => k_is)
    (case pgC => k_is)
    (case hdC => k_is)
    (case poC => k_is)
    (case saC => k_is)
    (case mkC => k_is)
    (case kcC => k_is)
    (case nC_entry => k_is)
    (case nC__passed => k_is)
    (case nC__failed => k_is)
    (case thaC => k_is)
    (case thmC => k_is)
    (case hclsC => k_is)
    (case htypC => k_is)
    (case rdC => k_is)
    (case gaC => k_is)
    (case apinit => k_is)
    (case ipinit => k_is)
    (case lpinit => k_is)
    (case cpinit => k_is)
    (case kpinit => k_is)
    (case appass => k_is)
    (case gppass => k_is)
    (case tppass => k_is)
    (case rppass => k_is)
    (case lppass => k_is)
    (case cppass => k_is)
    (case kppass => k_is)
    (case apfail => k_is)
    (case gpfail => k_is)
    (case tpfail => k_is)
    (case rpfail => k_is)
    (case lpfail => k_is)
    (case cpfail => k_is)
    (case kpfail => k_is)
    (case atpdone => k_is)
    (case rcpdone => k_is)
    (case lpdone => k_is)
    (case cpdone => k_is)
    (case kpdone => k_is)
    (case atpask => k_is)
    (case rcpask => k_is)
    (case lpask => k_is)
    (case cpask => k_is)
    (case kpask => k_is)
    (case atpread => k_is)
    (case rcpread => k_is)
    (case fipread => k_is)
    (case lpread => k_is)
    (case cpread => k_is)
    (case kpread => k_is)
    (case apeq => k_is)
    (case ipeq => k_is)
    (case lpeq => k_is)
    (case cpeq => k_is)
    (case kpeq => k_is)
    (case apstr => k_is)
    (case ipstr => k_is)
    (case lpstr => k_is)
    (case cpstr => k_is)
    (case kpstr => k_is)
    (case pne => k_is)
    (case kStr => k_is)
    (case gG => k_is)
    (case gL => k_is)
    (case gA => k_is)
    (case gD => k_is)
    (case gN => k_is)
    (case lN => k_is)
    (case vN => rfl)
    (case gLN => k_is)
    (case gME => k_is)
    (case gK => k_is)
    (case lK => k_is)
    (case vK => rfl)
    (case b_isinstance => k_is)
    (case b_int => k_is)
    (case b_bool => k_is)
    (case b_str => k_is)
    (case b_len => k_is)
    (case b_all => k_is)
    (case b_range => k_is)
    (case b_repr => k_is)
    (case b_list => k_is)
    (case b_abs => k_is)
    (case b_enumerate => k_is)
    (case b_zip => k_is)
    (case b_ValueError => k_is)
    (case aT => k_is)
    (case iT => k_is)
    (case tT => k_is)
    (case eT => k_is)
    (case sT => k_is)
    (case aN => k_is)
    (case xN => k_is)
    (case seN => k_is)
    (case geN => k_is)
    (case heN => k_is)
    (case neN => k_is)
    (case aeN => k_is)
    (case teN => k_is)
    (case leN => k_is)
    (case ceN => k_is)
    (case keN => k_is)
    (case kkeN => k_is)
    (case exeN => k_is)
    (case tyeN => k_is)
    (case hdeN => k_is)
    (case iceN => k_is)
    (case veeN => k_is)
    (case uteN => k_is)
    (case caeN => k_is)
    (case cmeN => k_is)
    (case aM => k_is)
    (case xM => k_is)
    (case seM => k_is)
    (case geM => k_is)
    (case heM => k_is)
    (case neM => k_is)
    (case aeM => k_is)
    (case teM => k_is)
    (case leM => k_is)
    (case ceM => k_is)
    (case keM => k_is)
    (case kkeM => k_is)
    (case exeM => k_is)
    (case tyeM => k_is)
    (case hdeM => k_is)
    (case iceM => k_is)
    (case veeM => k_is)
    (case uteM => k_is)
    (case caeM => k_is)
    (case cmeM => k_is)
    (case aS => k_is)
    (case xS => k_is)
    (case seS => k_is)
    (case geS => k_is)
    (case heS => k_is)
    (case neS => k_is)
    (case aeS => k_is)
    (case teS => k_is)
    (case leS => k_is)
    (case ceS => k_is)
    (case keS => k_is)
    (case kkeS => k_is)
    (case exeS => k_is)
    (case tyeS => k_is)
    (case hdeS => k_is)
    (case iceS => k_is)
    (case veeS => k_is)
    (case uteS => k_is)
    (case caeS => k_is)
    (case cmeS => k_is)
    (case aB => k_is)
    (case xB => k_is)
    (case seB => k_is)
    (case geB => k_is)
    (case heB => k_is)
    (case neB => k_is)
    (case oeB => k_is)
    (case aeB => k_is)
    (case teB => k_is)
    (case leB => k_is)
    (case ceB => k_is)
    (case keB => k_is)
    (case kkeB => k_is)
    (case exeB => k_is)
    (case tyeB => k_is)
    (case hdeB => k_is)
    (case iceB => k_is)
    (case veeB => k_is)
    (case uteB => k_is)
    (case caeB => k_is)
    (case cmeB => k_is)
