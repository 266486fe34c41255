import PyProof.Rows.All
import Wide.All
import OpenK.AllK
import Wide.FinOn
import KE.OsRunLaw
import KE.RegKSuper
import HandS.Head2
import HandS.ForMost
import HandS.OwnEq
import HandS.IsInst
import HandS.Wide
import HandS.EndBits
import HandS.Property
import KE.LtData
import HandS.NamedTupSort
import HandS.Exc
import HandS.ExcInit
import HandS.ExcIs
import HandS.ExcField
import HandS.TryOnly
import HandS.Lambda
import HandS.ClsMeth
import HandS.MakeKwOnly
import KE.KOpsOwn
import HandS.WordsExc
import HandS.WordsDict
import HandS.Codes
import HandS.Walk
import HandS.Iter
import KE.GoesEnum
import KE.GoesMore
import KE.KSuper
import HandS.Zip
import HandS.More
import HandS.List
import PyProof.ReprRoads
import PyProof.StrBlock2
import HandS.Words
import PyProof.StrLawsRepr
import HandS.Text
import KE.SortData
import HandS.RaiseMore
import KE.KCallOwn
import HandS.Star
import HandS.Set
import HandS.Strs
import PyProof.Rows.SortShellAny
import PyProof.Rows.StrMeet
import HandS.SetFor
import HandS.Defaults
import HandS.Small
import HandS.LawCells
import OpenK.KMeth
import KE.DataMinMax
import HandS.DictComp
import HandS.EndTab
import HandS.Conv
import KE.KDictSum
import HandS.Dict
import HandS.Call
import PyProof.NeKinds
import PyProof.EqAt
import PySem.Challenge.RW_soundtill_k13_pairs_of_rows
set_option Elab.async false
set_option linter.all false
set_option maxRecDepth 100000
set_option maxHeartbeats 8000000
section
open PySem PySem.W PySem.Calls PyProof.Rows
theorem K13.keepH (H : Hook) {p : Prop} (h : p) : p := h
local macro_rules
  | `(tactic| o_headL $H:term) => `(tactic| exact K13.keepH $H (by assumption))
set_option maxHeartbeats 0 in
theorem K13.dummy (h : OpenRow.Holds (OpenLaw.row PySem.Challenge.rw_soundtill_k13_pairs_of_rows)) : OpenRow.Holds (OpenLaw.row PySem.Challenge.rw_soundtill_k13_pairs_of_rows) := by
  k_headL
abbrev K13.R : OpenRow := OpenLaw.row PySem.Challenge.rw_soundtill_k13_pairs_of_rows
def K13.q : Program := view K13.R.prog [0, 2, 3, 4, 5, 6, 7, 8, 10, 11, 12, 13, 14, 15, 16, 17, 18, 19, 20, 21, 22, 23, 24, 25, 26, 28, 30, 31, 32, 33, 34, 35, 36, 37, 38, 39, 40, 41, 42, 43, 44, 45, 46, 47, 49, 50, 52, 53, 54, 55, 56, 57, 58, 59, 60, 61, 62, 63, 64, 65, 66, 67]
def K13.loose : List PySem.Str := [PySem.Str.ofString "Saying", PySem.Str.ofString "FORMS", PySem.Str.ofString "Row", PySem.Str.ofString "SetBy", PySem.Str.ofString "Lives"]
def K13.as : List Addr := [2, 3, 15, 17, 18, 20, 21, 22, 29, 30, 31, 32, 35, 42, 44, 45, 47, 48, 49, 50, 51, 54, 61, 63, 64, 66, 67, 68, 69, 70, 73, 80, 82, 83, 85, 86, 87, 88, 89, 92, 99, 101, 102, 104, 105, 106, 107, 108, 111, 118, 120, 121, 123, 124, 125, 126, 127, 130, 137, 139, 140, 142, 143, 144, 145, 146, 149, 150, 152, 153, 155, 156, 157, 159, 160, 162, 163, 164, 167, 168, 169, 171, 172, 174, 175, 176, 179, 180, 181, 183, 184, 186, 187, 188, 190, 191, 193, 194, 195, 197, 198, 200, 201, 202, 205, 206, 207, 209, 210, 212, 213, 214, 216, 217, 219, 220, 228, 230, 231, 233, 234, 235, 237, 238, 240, 241, 242, 243, 244, 245, 247, 248, 250, 251, 252, 253, 254, 255, 257, 258, 260, 261, 262, 263, 264, 265, 267, 268, 270, 271, 272, 273, 275, 276, 278, 279, 280, 282, 283, 285, 286, 287, 289, 290, 292, 293, 294, 296, 297, 299, 300, 301, 303, 304, 306, 307, 308, 310, 311, 313, 314, 315, 316, 317, 318, 319, 322, 323, 324, 325, 326, 327, 328, 329, 330, 331, 332, 333, 335, 336, 338, 339, 347, 348, 350, 351, 353, 354, 355, 356, 357, 358, 360, 361, 363, 364, 365, 366, 368, 369, 371, 372, 373, 374, 376, 377, 379, 380, 381, 382, 385, 386, 387, 389, 390, 392, 393, 394, 397, 398, 399, 401, 402, 404, 405, 406, 408, 409, 411, 412, 413, 416, 417, 418, 419, 420, 421, 422, 425, 432, 433, 434, 437, 444, 445, 446, 449, 456, 458, 459, 461, 462, 463, 464, 465, 468, 475, 477, 478, 480, 481, 482, 484, 485, 487, 488, 489, 490, 491, 494, 501, 503, 504, 506, 507, 508, 510, 511, 513, 514, 515, 516, 517, 520, 527, 529, 530, 532, 533, 534, 536, 537, 539, 540, 541, 542, 543, 546, 553, 555, 556, 558, 559, 560, 563, 564, 565, 566, 567, 570, 577, 579, 580, 582, 583, 584, 586, 587, 589, 590, 591, 592, 593, 596, 603, 605, 606, 608, 609, 610, 612, 613, 615, 616, 617, 618, 619, 622, 625, 630, 631, 633, 634, 636, 637, 638, 640, 641, 643, 644, 645, 646, 647, 650, 653, 658, 659, 661, 662, 664, 665, 666, 668, 669, 671, 672, 673, 674, 675, 678, 681, 686, 687, 689, 690, 692, 693, 694, 696, 697, 699, 700, 701, 702, 703, 706, 709, 714, 715, 717, 718, 720, 721, 722, 724, 725, 727, 728, 729, 730, 731, 734, 736, 737, 739, 740, 741, 743, 744, 746, 747, 748, 750, 751, 753, 754, 762, 765, 766, 767, 769, 770, 772, 773, 774, 775, 778, 779, 780, 781, 783, 784, 786, 787, 788, 790, 791, 793, 794, 795, 798, 799, 800, 802, 803, 805, 806, 807, 809, 810, 812, 813, 814, 816, 817, 819, 820, 821, 823, 824, 826, 827, 828, 829, 830, 831, 832, 835, 837, 838, 840, 841, 842, 844, 845, 847, 848, 849, 851, 852, 854, 855, 856, 858, 859, 861, 862, 863, 866, 867, 868, 870, 871, 873, 874, 875, 877, 878, 880, 881, 882, 885, 886, 892, 894, 895, 897, 898, 899, 902, 903, 904, 907, 908, 909, 911, 912, 914, 915, 916, 919, 920, 921, 924, 925, 926, 929, 930]
theorem K13.as_eq (P : Params) : K13.as = (K13.dummy.heap_1 P).map (·.1) := by kernel_rfl
def K13.Run (w : World) : Prop := ∀ os : OsState, (HeadRun.endF (HeadRun.stepQ (HeadRun.denQ HeadRun.tabQ) K13.R.prog w) 15300 K13.R.prog w os).map (fun s => (HeadRun.looksF K13.R.prog (boot_heap w.params) s.abs, HeadRun.seenQ K13.q K13.loose (importedModules K13.R.prog.main.body) (fun s => xlAt K13.q [] s && recOk (RowW.records K13.R.toRowW) s) s.abs, K13.as.map (HeadRun.getT s))) = some (true, openGood K13.q K13.loose, (K13.dummy.heap_1 w.params).map fun x => some x.2)
end

section
open PySem PySem.W PySem.Calls PyProof.Rows
noncomputable def K13.qs (s : SharedT) := HeadRun.seenQ K13.q K13.loose (importedModules K13.R.prog.main.body) (fun s => xlAt K13.q [] s && recOk (RowW.records K13.R.toRowW) s) s.abs
noncomputable def K13.ys (s : SharedT) := K13.as.map (HeadRun.getT s)
noncomputable def K13.gd := openGood K13.q K13.loose
noncomputable def K13.EF (w : World) (os : OsState) := HeadRun.endF (HeadRun.stepQ (HeadRun.denQ HeadRun.tabQ) K13.R.prog (w.withFollow "special-get-raises" false)) 15300 K13.R.prog (w.withFollow "special-get-raises" false) os
noncomputable def K13.lkF (w : World) (s : SharedT) : Bool := HeadRun.looksF K13.R.prog (boot_heap (w.withFollow "special-get-raises" false).params) s.abs
noncomputable def K13.yvF (w : World) := (K13.dummy.heap_1 (w.withFollow "special-get-raises" false).params).map fun x => some x.2
theorem K13.runAF (w : World) (os : OsState) : (K13.EF w os).map (fun s => (K13.lkF w s, K13.ys s, (K13.qs s).1)) = some (true, K13.yvF w, K13.gd.1) := by
  kernel_rfl
theorem K13.runBF (w : World) (os : OsState) : (K13.EF w os).map (fun s => ((K13.qs s).2.1, (K13.qs s).2.2.2)) = some (K13.gd.2.1, K13.gd.2.2.2) := by
  kernel_rfl
theorem K13.runCF (w : World) (os : OsState) : (K13.EF w os).map (fun s => (K13.qs s).2.2.1) = some K13.gd.2.2.1 := by
  kernel_rfl
noncomputable def K13.ET (w : World) (os : OsState) := HeadRun.endF (HeadRun.stepQ (HeadRun.denQ HeadRun.tabQ) K13.R.prog (w.withFollow "special-get-raises" true)) 15300 K13.R.prog (w.withFollow "special-get-raises" true) os
noncomputable def K13.lkT (w : World) (s : SharedT) : Bool := HeadRun.looksF K13.R.prog (boot_heap (w.withFollow "special-get-raises" true).params) s.abs
noncomputable def K13.yvT (w : World) := (K13.dummy.heap_1 (w.withFollow "special-get-raises" true).params).map fun x => some x.2
theorem K13.runAT (w : World) (os : OsState) : (K13.ET w os).map (fun s => (K13.lkT w s, K13.ys s, (K13.qs s).1)) = some (true, K13.yvT w, K13.gd.1) := by
  kernel_rfl
theorem K13.runBT (w : World) (os : OsState) : (K13.ET w os).map (fun s => ((K13.qs s).2.1, (K13.qs s).2.2.2)) = some (K13.gd.2.1, K13.gd.2.2.2) := by
  kernel_rfl
theorem K13.runCT (w : World) (os : OsState) : (K13.ET w os).map (fun s => (K13.qs s).2.2.1) = some K13.gd.2.2.1 := by
  kernel_rfl
theorem K13.cut {S A B T1 T2 T3 R : Type} {E : Option S} (l : S → A) (q : S → T1 × T2 × T3 × R) (y : S → B) {a : A} {g : T1 × T2 × T3 × R} {b : B}
    (hA : E.map (fun s => (l s, y s, (q s).1)) = some (a, b, g.1)) (hB : E.map (fun s => ((q s).2.1, (q s).2.2.2)) = some (g.2.1, g.2.2.2))
    (hC : E.map (fun s => (q s).2.2.1) = some g.2.2.1) : E.map (fun s => (l s, q s, y s)) = some (a, g, b) := by
  cases E with
  | none => cases hA
  | some s =>
    obtain ⟨h1, h2, h3⟩ : l s = a ∧ y s = b ∧ (q s).1 = g.1 := by simpa only [Option.map_some, Option.some.injEq, Prod.mk.injEq] using hA
    obtain ⟨h4, h5⟩ : (q s).2.1 = g.2.1 ∧ (q s).2.2.2 = g.2.2.2 := by simpa only [Option.map_some, Option.some.injEq, Prod.mk.injEq] using hB
    have h6 : (q s).2.2.1 = g.2.2.1 := by simpa only [Option.map_some, Option.some.injEq] using hC
    have hq : q s = g := Prod.ext h3 (Prod.ext h4 (Prod.ext h6 h5))
    show some (l s, q s, y s) = _
    rw [h1, h2, hq]
theorem K13.bothF (w : World) : (∀ os : OsState, (K13.EF w os).map (fun s => (K13.lkF w s, K13.qs s, K13.ys s)) = some (true, K13.gd, K13.yvF w)) = K13.Run (w.withFollow "special-get-raises" false) := by
  kernel_rfl
theorem K13.runF (w : World) : K13.Run (w.withFollow "special-get-raises" false) := (K13.bothF w).mp fun os => K13.cut (K13.lkF w) K13.qs K13.ys (K13.runAF w os) (K13.runBF w os) (K13.runCF w os)
theorem K13.bothT (w : World) : (∀ os : OsState, (K13.ET w os).map (fun s => (K13.lkT w s, K13.qs s, K13.ys s)) = some (true, K13.gd, K13.yvT w)) = K13.Run (w.withFollow "special-get-raises" true) := by
  kernel_rfl
theorem K13.runT (w : World) : K13.Run (w.withFollow "special-get-raises" true) := (K13.bothT w).mp fun os => K13.cut (K13.lkT w) K13.qs K13.ys (K13.runAT w os) (K13.runBT w os) (K13.runCT w os)
theorem K13.byRowAll (row : String) {P : World → Prop} (hf : ∀ w : World, P (w.withFollow row false)) (ht : ∀ w : World, P (w.withFollow row true)) : ∀ w, P w := fun w => byRow2 row hf ht w
end

/-! So: rules of our own over the hand layer. Runs whose guards are known (for repr), repr of data, == and != by an own __eq__ with both answers, < of data, a method's call with keywords. -/
namespace So
open PySem PySem.Spec PyProof.Rows L2

/-! ### repr of data -/
mutual
theorem dp_noDict {K : PySem.W.Frag} {H : Hp} : ∀ (d : PyData) (v : V), Dp K H v d → d.hasDict = false
  | .none, _, _ => rfl
  | .bool _, _, _ => rfl
  | .int _, _, _ => rfl
  | .str _, _, _ => rfl
  | .list ds, _, h => by
    cases h with
    | lst _ ha => simpa [PyData.hasDict] using dp_noDictAll ds _ ha
  | .tuple ds, _, h => by
    cases h with
    | tup _ ha => simpa [PyData.hasDict] using dp_noDictAll ds _ ha
  | .dict _, _, h => by cases h
theorem dp_noDictAll {K : PySem.W.Frag} {H : Hp} : ∀ (ds : List PyData) (vs : List V), DpAll K H vs ds → PyData.hasDictAll ds = false
  | [], _, _ => rfl
  | d :: ds, _, h => by
    cases h with
    | cons h1 h2 => simp [PyData.hasDictAll, dp_noDict d _ h1, dp_noDictAll ds _ h2]
end

/-- repr(x): what it asks -/
def rRepr (K : PySem.W.Frag) : List V → Hp → VK → Prop := fun xs H Q => ∃ v d, xs = [v] ∧ Dp K H v d ∧ d.showable = true ∧ d.depth ≤ 60 ∧ d.shown.length ≤ sizeLine ∧ Q (.str d.shown) H
section
variable {X : Cx}
theorem call_reprD (hg : X.A.guards = some []) (hu : X.A.units + 64 < cLine) : CallR X (.builtin "repr") (rRepr X.K) := by
  intro pins s σ H xs us Q I r h
  obtain ⟨v, d, rfl, hd, hs, hdep, hz, q⟩ := h
  obtain ⟨u, rfl, rv⟩ := vals1 r
  obtain ⟨as, rd⟩ := Dp.reads I d v u hd rv
  have nd : d.hasDict = false := dp_noDict d v hd
  cases v with
  | ref a =>
    cases rv
    refine repr_of_reads' rd hs (fun z => by rw [nd] at z; cases z) hg (by omega) (fun _ _ e => e) (fun h' t tk k => ?_) hz
    exact ⟨.str d.shown, H, I.kept k, ⟨t, rfl⟩, q⟩
  | non =>
    cases hd
    cases rv
    exact PySem.P.repr_of_none ⟨.str _, H, I.tok _, ⟨_, rfl⟩, q⟩
  | bl b =>
    cases hd
    cases rv
    refine PySem.P.repr_of_bool ⟨.str (PyData.shown (.bool b)), H, I.tok _, ⟨s.toks, ?_⟩, q⟩
    cases b <;> rfl
  | int i =>
    cases hd
    obtain ⟨t, rfl⟩ := rv
    exact PySem.P.repr_of_int (by simpa [PyData.showable] using hs) ⟨.str _, H, I.tok _, ⟨_, rfl⟩, q⟩
  | str x =>
    cases hd
    obtain ⟨t, rfl⟩ := rv
    exact PySem.P.repr_of_str ⟨.str _, H, I.tok _, ⟨_, rfl⟩, q⟩ hz
  | byt b => cases hd
  | flt b => cases hd
  | ty n => cases hd

/-! ### < of data -/
def rLtD (K : PySem.W.Frag) : R2 := fun x y H Q => ∃ d e, Dp K H x d ∧ Dp K H y e ∧ PySem.W.alike d e = true ∧ d ≠ .none ∧ d.depth ≤ 60 ∧ Q (.bl (PySem.W.dataLt d e)) H
theorem op_ltD (hu : X.A.units + 64 < cLine) : OpR X (compareOp .Lt) (rLtD X.K) := by
  intro pins s σ H x y v u Q I rx ry h
  obtain ⟨d, e, hd, he, al, nn, dep, q⟩ := h
  obtain ⟨as, r1⟩ := Dp.reads I d x v hd rx
  obtain ⟨bs, r2⟩ := Dp.reads I e y u he ry
  have hm : min d.depth e.depth ≤ d.depth := Nat.min_le_left _ _
  exact PySem.W.rcLt_alike d e X.A s v u as bs r1 r2 al nn (by omega) _ _ _ _ ⟨.bl _, H, I, rfl, q⟩
end
end So

namespace So
open PySem PySem.Spec PyProof.Rows L2

/-! ### == and != by an own __eq__, both answers -/
/-- x is an instance of C, y of a type that is no class below C; the own __eq__ answers b -/
def rOwn (C : Addr) (K : PySem.W.Frag) (sp : Sp) (E : XK) (g : Bool → Bool) : R2 := fun x y H Q => ∃ a dx fs t, x = .ref a ∧ H a = some (.ins C dx fs) ∧ TyX K H y t ∧ PySem.W.notFirst K C t = true ∧
  sp [.ref a, y] H (fun v H' => ∃ b, v = .bl b ∧ Q (.bl (g b)) H') E
section
variable {X : Cx} {CX : CXT} {k : Nat} {C f : Addr} {fd : FuncData} {ps : List Str} {sp : Sp} {E : XK}
/-- what is wanted of a comparison's answer -/
def BlP (X : Cx) (pins : List (Addr × Obj)) (σ : L2.St) (g : Bool → Bool) (Q : VK) (v : Value) (s' : Shared) : Prop := ∃ b H', v = .bool b ∧ Inv X pins σ H' s' ∧ Q (.bl (g b)) H'
theorem run_eq {pins : List (Addr × Obj)} {s : Shared} {σ : L2.St} {H : Hp} {a dx : Addr} {fs : List (Str × V)} {y : V} {u : Value} {Q : VK} {g : Bool → Bool} {A : Around} (F : FnOk X.prog X.w X.K X.mg X.base CX k f fd ps sp) (hb : Binds X.K fd ps [])
    (hx : Passes CX X E) (hr : Room k A) (hf : A.frames = X.A.frames) (I : Inv X pins σ H s) (ry : RelV y u) (h : sp [.ref a, y] H (fun v H' => ∃ b, v = .bl b ∧ Q (.bl (g b)) H') E) :
    wpAny (model X.prog X.w) A (call (.ref f) [.ref a, u]) (fun v s' => BlP X pins σ g Q v s') X.xe s := by
  have e0 : Env0 X.prog X.w X.K X.mg X.base A X.stack s H := by
    have e := I.env0
    exact ⟨hf.trans e.frames, e.mod, e.bs, e.bsz, e.funs, e.frf, e.hok, e.bare⟩
  have hl : ([Value.ref a, u] ++ ([] : List Value)).length = ps.length := (F.len _ _ _ _ h : [V.ref a, y].length = ps.length)
  refine wpAny_call (codeAny_mono (F.run A X.stack s H ⟨[.ref a, u], []⟩ ([.ref a, u] ++ []) [.ref a, y] _ E hr e0 (hb s [.ref a, u] I.kIn hl) (.cons rfl (.cons ry .nil)) h) fun r s' hq => ?_)
  cases r with
  | error e => exact hx pins σ H s e s' I hq
  | ok fl =>
    cases fl with
    | ret w =>
      obtain ⟨z, H', I', rz, b, ez, q⟩ := I.after hq
      subst ez
      cases rz
      exact ⟨b, H', rfl, I', q⟩
    | next => exact False.elim hq
    | brk => exact False.elim hq
    | cont => exact False.elim hq

theorem op_eqOwn (F : FnOk X.prog X.w X.K X.mg X.base CX k f fd ps sp) (hs : PySem.W.findIn X.K (.ref C) "__eq__" = some (some (.ref f))) (hf : PySem.W.isFn X.K (.ref f) = true) (hb : Binds X.K fd ps []) (hx : Passes CX X E) (hr : Room k X.A) :
    OpR X (compareOp .Eq) (rOwn C X.K sp E id) := by
  intro pins s σ H x y v u Q I rx ry h
  obtain ⟨a, dx, fs, t, rfl, ha, ty, nf, q⟩ := h
  cases rx
  obtain ⟨mA, J, _⟩ := ins_get I.hok ha
  obtain ⟨od, J, _⟩ := J.look
  obtain ⟨P, Z, p, _⟩ := kit_of I ry ty
  obtain ⟨m, hF⟩ := I.fr
  show wpAny _ _ (richCompare .Eq (.ref a) u) _ _ s
  refine PySem.W.cmp_K (op := .Eq) (tb := t) hr.units0 hF I.ok.mod.kin J (Z.ty _ _ I.kIn p) nf hs hf ?_
  refine wpAny_mono (run_eq (dx := dx) (fs := fs) F hb hx hr rfl I ry q) (fun w s' z => ?_) fun _ _ z => z
  obtain ⟨b, H', rfl, I', q'⟩ := z
  exact ⟨.bl b, H', I', rfl, q'⟩

/-- != where the class has an own __eq__ and object's __ne__ -/
theorem op_neOwn (F : FnOk X.prog X.w X.K X.mg X.base CX k f fd ps sp) (hs : PySem.W.findIn X.K (.ref C) "__eq__" = some (some (.ref f))) (hf : PySem.W.isFn X.K (.ref f) = true) (hb : Binds X.K fd ps []) (hx : Passes CX X E) (hr : Room (k + 1) X.A)
    (hn : PySem.W.findIn X.K (.ref C) "__ne__" = some (some (.builtin "object.__ne__"))) (hm : PySem.W.mroIn X.K C (.type "object") = some true) : OpR X (compareOp .NotEq) (rOwn C X.K sp E not) := by
  intro pins s σ H x y v u Q I rx ry h
  obtain ⟨a, dx, fs, t, rfl, ha, ty, nf, q⟩ := h
  cases rx
  obtain ⟨mA, J, _⟩ := ins_get I.hok ha
  obtain ⟨od, J, _⟩ := J.look
  obtain ⟨P, Z, p, _⟩ := kit_of I ry ty
  have KI := I.kIn
  have hb' := Z.ty (model X.prog X.w) _ I.kIn p
  have hu : X.A.units < cLine := hr.units0
  show wpAny _ _ (richCompare .NotEq (.ref a) u) _ _ s
  have one : wpAny (model X.prog X.w) X.A (tryCompare (.ref a) "__ne__" u) (fun r s' => ∃ v, r = some v ∧ EP X pins σ Q v s') X.xe s := by
    unfold tryCompare
    refine wpAny_bind (NtL.csib (J.type.andThen (PySem.W.looks_findIn KI hn)) (PySem.F.cmp_object.ne.bind _) (wpAny_call (codeAny_call_builtin PySem.F.cmp_object.ne.plain PySem.F.cmpEntry_ne (PySem.W.check_slot PySem.F.cmpKind_ne PySem.F.cmpSplit_ne (J.type.andThen (PySem.W.looks_mroIn KI hm)) (PySem.F.cmpArgs_ne _ _) ?_))))
    unfold Builtin.«object.__ne__»
    refine wpAny_bind (wpAny_of_eq (a := ((Value.ref a : Value), [u])) (by first | rfl | (simp only [slotArgs]; rfl)) ?_)
    refine wpAny_bind (wpAny_cRoomFor (by show X.A.units + 1 < cLine; have := hr.units; omega) ?_)
    refine wpAny_bind (PySem.W.ifBound_K KI J hs hf (wpAny_mono (run_eq (dx := dx) (fs := fs) F hb hx hr.in1 rfl I ry q) (fun w s' z => ?_) fun _ _ z => z))
    obtain ⟨b, H', rfl, I', q'⟩ := z
    refine wpAny_bind (wpAny_truthy_bool ?_)
    refine wpAny_pure ?_
    exact wpAny_pure ⟨_, rfl, .bl (!b), H', I', rfl, q'⟩
  unfold richCompare
  simp only [oneThing_ref]
  refine wpAny_holding (wpAny_bind (wpAny_cRoomFor hu ?_))
  refine wpAny_bind (J.type.here (wpAny_bind (hb'.here ?_)))
  have fin : wpAny (model X.prog X.w) X.A (tryCompare (.ref a) "__ne__" u) (fun r s' => ∃ v, r = some v ∧ EP X pins σ Q v s') X.xe s := one
  split
  · rename_i z
    have e : PySem.W.subIn X.K t (.ref C) = some false := by
      rcases Bool.or_eq_true_iff.mp nf with e | e
      · rw [beq_iff_eq.mp e] at z; simp at z
      · exact beq_iff_eq.mp e
    refine wpAny_bind ((PySem.W.looks_subIn KI e).here ?_)
    simp only [Bool.false_eq_true, if_false]
    exact wpAny_bind (wpAny_mono fin (fun r s' z => by obtain ⟨v, rfl, hq⟩ := z; exact wpAny_pure hq) fun _ _ e => e)
  · refine wpAny_bind (wpAny_pure ?_)
    simp only [Bool.false_eq_true, if_false]
    exact wpAny_bind (wpAny_mono fin (fun r s' z => by obtain ⟨v, rfl, hq⟩ := z; exact wpAny_pure hq) fun _ _ e => e)
end
end So

namespace So
open PySem PySem.Spec PyProof.Rows L2

/-! ### runs in which no repr is under way -/
/-- as FnOk, where no repr is under way at the call -/
structure FnG (P : Program) (w : World) (K : PySem.W.Frag) (mg : Str → Option Value) (base : Heap) (CX : CXT) (k : Nat) (f : Addr) (fd : FuncData) (ps : List Str) (sp : Sp) : Prop where
  lenG : ∀ (vs : List V) (H : Hp) (Q : VK) (E : XK), sp vs H Q E → vs.length = ps.length
  runG : ∀ (A : Around) (outer : List Env) (s : Shared) (H : Hp) (args : Args) (us : List Value) (vs : List V) (Q : VK) (E : XK), A.guards = some [] → Room k A → Env0 P w K mg base A outer s H →
    BindsTo s fd args (ps.zip us) → Vals vs us → sp vs H Q E → codeAny (model P w) A (.call (.ref f) args) (CR CX outer P w H s Q E) s
section
variable {P : Program} {w : World} {K : PySem.W.Frag} {mg : Str → Option Value} {base : Heap} {CX : CXT} {sp : Sp} {fd : FuncData} {ps N : List Str} {k : Nat} {f : Addr}
theorem FnG.ofOk (F : FnOk P w K mg base CX k f fd ps sp) : FnG P w K mg base CX k f fd ps sp :=
  ⟨F.len, fun A outer s H args us vs Q E _ => F.run A outer s H args us vs Q E⟩
/-- a def by its body, as the layer's rule, the guards told -/
theorem fnG_of {x qual : Str} {st : Stmt} (F : Fun K x qual st f fd) (S : FnScope N ps (defScope st)) (len : ∀ vs H Q E, sp vs H Q E → vs.length = ps.length)
    (hbody : ∀ (cdv : Value) (A : Around) (outer : List Env) (s : Shared) (H : Hp) (vs : List V) (Q : VK) (E : XK), A.guards = some [] → Room k (A.deeper (envOfC qual (defScope st) s.heap.objs.size f cdv)) → sp vs H Q E →
      ∃ t, PSs (cxOf CX P w K mg base N qual (defScope st) f cdv A outer s H E).nox (defBody st) t ∧ t { nx := fun _ H' => Q .non H', rt := Q } (start N vs) H) : FnG P w K mg base CX (k + 1) f fd ps sp := by
  obtain ⟨oc, od, kV, doc, pm, an, cdv, ct, osl, rfl, lk, hcd⟩ := F.ex
  constructor
  · exact len
  intro A outer s H args us vs Q E hg hr e0 hb r hsp
  have old : ∀ b o, base.get? b = some o → s.heap.get? b = some o := fun b o e => (e0.bs b o e).1
  have KX := e0.mod.kin.keeps old
  have lim := e0.mod.nolimit.keeps old
  refine codeAny_call_function hr.depth (KX _ _ lk) rfl S.co S.gen rfl (PySem.W.codeRec_of KX hcd) (hb _ _ _ _ ?_)
  refine wpAny_newFunctionEnv_cells S.kind (fun y hy => ?_) fun env he s1 x => ?_
  · rcases S.par y.1 (List.of_mem_zip (show (y.1, y.2) ∈ ps.zip us from hy)).1 with q | q
    · exact Or.inl q
    · exact Or.inr (And.intro q (PySem.W.cellsFrom_some _ _ _ (Or.inl q)))
  subst he
  refine And.intro (lim.keeps x.toInCall.keep) (codeAny_func ?_)
  obtain ⟨t, ht, hq⟩ := hbody cdv A outer s H vs Q E hg (hr.deeper _) hsp
  refine wpAny_mono (ht.nox.run [] s1 (start N vs) H _ (inv_start S hr.hd e0 (len _ _ _ _ hsp) r x) hq) (fun fl s' hs => ?_) fun _ _ hs => hs
  match fl, hs with
  | .ret u, ⟨v, σ', H', J, rv, q⟩ => exact ⟨v, H', J.os, J.bare, J.base, J.hok, rv, q⟩
  | .next, ⟨σ', H', J, q⟩ => exact ⟨V.non, H', J.os, J.bare, J.base, J.hok, rfl, q⟩
  | .brk, ⟨_, _, _, q⟩ => exact q.elim
  | .cont, ⟨_, _, _, q⟩ => exact q.elim
end

/-! ### calls -/
section
variable {X : Cx} {CX : CXT} {k : Nat} {f C : Addr} {fd : FuncData} {ps ks : List Str} {sp : Sp} {E : XK} {x m : Str} {p pos apos : Pos} {e o : Expr} {es : List Expr} {kws : List Keyword} {ta : TE} {t tk : TA} {dvs : List V} {ds : List Value}
theorem run_fnG {pins : List (Addr × Obj)} {σ : L2.St} {H : Hp} {s : Shared} {Q : VK} {us : List Value} {vs : List V} (F : FnG X.prog X.w X.K X.mg X.base CX k f fd ps sp) (hg : X.A.guards = some []) (hr : Room k X.A) (hb : Binds X.K fd ps ds) (hd : Vals dvs ds)
    (hx : Passes CX X E) (I : Inv X pins σ H s) (r : Vals vs us) (h : sp (vs ++ dvs) H Q E) : wpAny (model X.prog X.w) X.A (call (.ref f) us) (EP X pins σ Q) X.xe s := by
  have r2 := r.append hd
  have hl : (us ++ ds).length = ps.length := r2.length.symm.trans (F.lenG _ _ _ _ h)
  refine wpAny_call (codeAny_mono (F.runG X.A X.stack s H ⟨us, []⟩ (us ++ ds) (vs ++ dvs) Q E hg hr I.env0 (hb s us I.kIn hl) r2 h) fun r s' hq => ?_)
  match r, hq with
  | .error e, hq => exact hx pins σ H s e s' I hq
  | .ok (.ret u), hq => exact I.after hq
  | .ok .next, hq => exact hq.elim
  | .ok .brk, hq => exact hq.elim
  | .ok .cont, hq => exact hq.elim
/-- f(e, ..), f by FnG -/
theorem pe_callG (F : FnG X.prog X.w X.K X.mg X.base CX k f fd ps sp) (hg : X.A.guards = some []) (hr : Room k X.A) (hgl : Gl X x) (hm : X.mg x = some (.ref f)) (hk : PySem.W.keepIn X.K (.ref f) = true) (hb : Binds X.K fd ps ds) (hd : Vals dvs ds) (hx : Passes CX X E)
    (ha : PA X (e :: es) t) (hdb : (x == ("__debug__" : Str)) = false := by decide) (he : starEach (e :: es) X.env = (false, eval e X.env) :: starEach es X.env := by rfl) (hpl : (backTo pos (starEach es X.env)).any (·.1) = false := by rfl) :
    PE X (.Call (.Name x p) (e :: es) [] pos) (tCall sp dvs E t) := by
  constructor
  intro pins s σ H Q I h
  refine wpAny_Call_Name_kw (ld_glob I hgl hm (PySem.W.callWith_K (h₀ := X.base) I.ok.mod.kin hk (thn (ha.run pos pins s σ H _ I h) fun us s1 q => ?_) he hpl) hdb)
  obtain ⟨vs, H1, I1, r, q⟩ := q
  exact ⟨I1.kIn, run_fnG F hg hr hb hd hx I1 r q⟩
/-- o.m(k = v, ..): keywords alone -/
theorem pe_methK {g : List Value → List Value → List Value} {gV : List V → List V → List V} {pl : Sem Bool} (he : PE X o ta) (c : Cls X.K C) (hm : Meth X.K C m f) (F : FnOk X.prog X.w X.K X.mg X.base CX k f fd ps sp) (hr : Room k X.A) (hb : KBinds X.K fd ps ks g gV)
    (hx : Passes CX X E) (hkw : PK X kws tk) (hall : (backToKw pos (keywordEach kws X.env)).all (·.1.isSome) = true := by rfl) (hks : (backToKw pos (keywordEach kws X.env)).filterMap (·.1) = ks := by rfl)
    (hpl : ((backTo pos (starEach [] X.env)).any (·.1) || (backToKw pos (keywordEach kws X.env)).any (·.1.isNone)) = false := by rfl)
    (ht : eval (.Call (.Attribute o m apos) [] kws pos) X.env = (do
      let ov ← eval o X.env
      standAt apos.atName
      let fx ← holding [ov] (getMethod ov m pl)
      callWith pos fx.1 fx.2 (backTo pos (starEach [] X.env)) (backToKw pos (keywordEach kws X.env))) := by rfl) :
    PE X (.Call (.Attribute o m apos) [] kws pos) (fun σ H Q => ta σ H fun x H1 => ∃ a dx fs, x = .ref a ∧ H1 a = some (.ins C dx fs) ∧ fs.lookup m = none ∧ tk σ H1 fun zs H2 => sp (gV [x] zs) H2 Q E) := by
  constructor
  intro pins s σ H Q I h
  refine PySem.W.methodCall_KW (pl := pl) (thn (he.run pins s σ H _ I h) fun u s1 z => ?_) ht
  obtain ⟨x, H1, I1, rx, a, dx, fs, ex, ea, l, q⟩ := z
  subst ex
  cases rx
  refine getmeth_ok I1 ea c hm l ?_
  refine PySem.W.callWith_KW0 (first := [.ref a]) (h₀ := X.base) I.ok.mod.kin hm.kp hall (thn (hkw.run pos pins s1 σ H1 _ I1 q) fun ws s2 z => ?_) hpl
  obtain ⟨zs, H2, I2, rz, q2⟩ := z
  refine ⟨I2.kIn, ?_⟩
  rw [hks]
  exact run_fnk (us := [.ref a]) (vs := [.ref a]) F hr hb hx I2 (.cons rfl .nil) rz q2
end

/-! ### the end of a law -/
theorem law_callG {P : Program} {w : World} {K : PySem.W.Frag} {mg mb : Str → Option Value} {CX : CXT} {k : Nat} {fa a : Addr} {fd : FuncData} {x : Str} {sp : Sp} {s₁ : Shared} {vs : List Value} {ns : List Int}
    (KX : K.In s₁.heap) (hns : s₁.heap.Ns mainGlobals mg) (hb : s₁.heap.Ns builtinsNs mb) (hbb : ∀ x : Str, x ≠ "__name__" → mb x = bootBuiltins x) (hlim : s₁.heap.NoLimit) (hg : s₁.gens = #[])
    (ha : s₁.heap.get? a = some { cls := .type "list", data := .seq vs.toArray }) (hi : IntsAre vs ns) (hl : ns.length ≤ sizeLine) (hr : Room k callerA)
    (F : ∀ base : Heap, K.In base → base.Ns mainGlobals mg → FnG P w K mg base CX k fa fd [x] sp) (hbind : ∀ (s : Shared) (u : Value), BindsTo s fd ⟨[u], []⟩ [(x, u)])
    (hsp : ∀ H : Hp, Only H → SqL K H a (ns.map V.int) → sp [.ref a] H (fun v _ => v = .bl true) fun _ _ _ => False)
    (hCX : ∀ H e s', CX [] H s₁ (fun _ _ _ => False) e s' → False) :
    codeAny (model P w) callerA (.call (.ref fa) ⟨[.ref a], []⟩) (fun r s' => r = .ok (.ret (.bool true)) ∧ OldK s₁.heap s'.heap ∧ s'.os = s₁.os ∧ AllBare s'.gens) s₁ := by
  -- the call itself, for a heap in which the script alone may be tracked
  have go : ∀ H : Hp, Only H → SqL K H a (ns.map V.int) → HOk P w H s₁.heap → (∀ b u, H b = some u → b = a ∧ K.lookup a = none) →
      codeAny (model P w) callerA (.call (.ref fa) ⟨[.ref a], []⟩) (fun r s' => r = .ok (.ret (.bool true)) ∧ OldK s₁.heap s'.heap ∧ s'.os = s₁.os ∧ AllBare s'.gens) s₁ := by
    intro H hO hS hok hA
    have free : ∀ b : Addr, (b ≠ a ∨ K.lookup a ≠ none) → H b = none := by
      intro b z
      cases q : H b with
      | none => rfl
      | some u => exact (z.elim (fun z => z (hA b u q).1) fun z => z (hA b u q).2).elim
    have notSeq : ∀ {b : Addr} {m : Str → Option Value}, s₁.heap.Ns b m → b ≠ a := by
      rintro b m ⟨o, es, ep, e, d, _⟩ rfl
      rw [ha] at e
      cases e
      cases d
    have inH : ∀ {b : Addr} {m : Str → Option Value}, s₁.heap.Ns b m → (hidT s₁.heap H).Ns b m := by
      intro b m n
      have nb := free b (Or.inl (notSeq n))
      obtain ⟨o, es, ep, e, r⟩ := n
      exact ⟨o, es, ep, hidT_get e nb, r⟩
    have kin : K.In (hidT s₁.heap H) := by
      intro b o e
      refine hidT_get (KX b o e) ?_
      by_cases hb : b = a
      · exact free b (Or.inr (by rw [← hb, e]; exact fun z => nomatch z))
      · exact free b (Or.inl hb)
    have lim2 : (hidT s₁.heap H).NoLimit := by
      obtain ⟨mc, h1, h2⟩ := hlim
      exact ⟨mc, inH h1, h2⟩
    have e0 : Env0 P w K mg (hidT s₁.heap H) callerA [] s₁ H := by
      refine ⟨rfl, ⟨kin, inH hns, ⟨mb, inH hb, hbb⟩, lim2⟩, fun b o e => of_hidT e, Nat.le_of_eq (hidT_size _ _), True.intro, ?_, hok, .of_eq hg⟩
      intro b hb
      cases hb
    refine codeAny_mono ((F _ kin (inH hns)).runG callerA [] s₁ H ⟨[.ref a], []⟩ [.ref a] [.ref a] _ _ rfl hr e0 (hbind s₁ (.ref a)) (.cons rfl .nil) (hsp H hO hS)) fun r s' h => ?_
    match r, h with
    | .error e, h => exact (hCX H e s' h).elim
    | .ok .next, h => exact h.elim
    | .ok .brk, h => exact h.elim
    | .ok .cont, h => exact h.elim
    | .ok (.ret u), ⟨v, H', os, bare, un, hok', rv, q⟩ =>
      have q2 : v = .bl true := q
      subst q2
      cases rv
      refine ⟨rfl, OldK.of_keep (fun b o e => ?_), os, bare⟩
      rcases hO b with z | ⟨ob, xs, z⟩
      · exact un.keep b o e z (fun z => nomatch z) (fun z => nomatch z)
      · have z1 := (hok b _ z).1
        have z2 := (hok' b _ (un.frzs b ob _ z)).1
        rw [z1] at e
        rw [z2, e]
  have rv := vals_ints hi
  have hlen : (ns.map V.int).length ≤ sizeLine := by rw [List.length_map]; exact hl
  cases hk : K.lookup a with
  | some o =>
    have e := KX a o hk
    rw [ha] at e
    cases e
    exact go (fun _ => none) (fun _ => Or.inl rfl) (Or.inr ⟨_, vs.toArray, _, hk, rfl, rfl, rfl, by rw [List.size_toArray, hi.length]; exact hl, by simpa using rv⟩) (fun b u z => nomatch z) fun b u z => nomatch z
  | none =>
    have at_ : ∀ b u, (if b = a then some (HO.frz { cls := .type "list", data := .seq vs.toArray } (.lst (ns.map V.int))) else none) = some u → b = a ∧ u = .frz { cls := .type "list", data := .seq vs.toArray } (.lst (ns.map V.int)) := by
      intro b u z
      split at z
      · rename_i hb
        exact ⟨hb, (Option.some.inj z).symm⟩
      · cases z
    refine go (fun b => if b = a then some (.frz { cls := .type "list", data := .seq vs.toArray } (.lst (ns.map V.int))) else none) (fun b => ?_) (Or.inl (Or.inr ⟨_, if_pos rfl⟩)) (fun b u z => ?_) fun b u z => ⟨(at_ b u z).1, hk⟩
    · by_cases hb : b = a
      · exact Or.inr ⟨_, _, if_pos hb⟩
      · exact Or.inl (if_neg hb)
    · obtain ⟨rfl, rfl⟩ := at_ b u z
      exact ⟨ha, hlen, vs, _, rv, ha⟩

theorem walk_ofG {l : PySem.W.OpenLaw} {n k : Nat} {q : Program} {loose : List Str} {XP : (Str → Option Value) → Heap → Prop} {YP : World → Heap → Prop} {d : DefRec} {K : Params → PySem.W.Frag} {CX : World → CXT} {sp : World → Sp} {x : Str}
    (hn : l.most = some n) (hn2 : n ≤ sizeLine) (hdf : d.params.defaults = []) (hr : Room k callerA) (hY : ∀ (w : World) (h : Heap), YP w h → (K w.params).In h)
    (F : ∀ (w : World) (mg : Str → Option Value) (fa : Addr) (h : Heap), (K w.params).In h → h.Ns mainGlobals mg → mg d.name = some (.ref fa) →
      ∃ fd : FuncData, (∀ (s : Shared) (u : Value), BindsTo s fd ⟨[u], []⟩ [(x, u)]) ∧ ∀ base : Heap, (K w.params).In base → base.Ns mainGlobals mg → FnG l.prog w (K w.params) mg base (CX w) k fa fd [x] (sp w))
    (hsp : ∀ (w : World) (H : Hp) (a : Addr) (ns : List Int), ns.length ≤ n → (∀ z ∈ ns, Builtin.Int.intBits z ≤ 1048576) → Only H → SqL (K w.params) H a (ns.map V.int) → sp w [.ref a] H (fun v _ => v = .bl true) fun _ _ _ => False)
    (hCX : ∀ (w : World) (H : Hp) (s : Shared) (e : Value) (s' : Shared), CX w [] H s (fun _ _ _ => False) e s' → False) :
    PySem.W.WalkO q loose XP YP l.row.toRowW d [] (fun f vs => PySem.call f vs) := by
  apply Att.attach_callB hn hdf
  intro w s₀ s₁ mg mb fa o pm cd doc a vs ns G Y _ _ _ hmg hobj hints hlen hbits hg
  obtain ⟨fd, hb, hF⟩ := F w mg fa _ (hY w _ Y) G.T.g hmg
  exact law_callG (hY w _ Y) G.T.g G.T.b G.T.builtins G.T.nolimit hg hobj hints (Nat.le_trans hlen hn2) hr hF hb (fun H hO hS => hsp w H a ns hlen hbits hO hS) fun H e s' => hCX w H s₁ e s'
end So

namespace So
open PySem PySem.Spec PyProof.Rows L2
section
variable {K : PySem.W.Frag} {C : Addr}
theorem kit_self : PySem.W.kitOne K (.ref C) (.ref C) = some true := by
  unfold PySem.W.kitOne
  rw [if_pos]
  simp
/-- no built-in type stands below an own class -/
theorem sub_ty {T : String} (h : (fastBuiltinMro T).map (fun l => l.all fun v => match v with | .type _ => true | _ => false) = some true) : PySem.W.subIn K (.type T) (.ref C) = some false := by
  show (fastBuiltinMro T).map (·.contains (.ref C)) = some false
  cases e : fastBuiltinMro T with
  | none => rw [e] at h; cases h
  | some l =>
    rw [e] at h
    have h2 : (l.all fun v => match v with | .type _ => true | _ => false) = true := Option.some.inj h
    show some (l.contains (.ref C)) = some false
    congr 1
    cases c : l.contains (.ref C) with
    | false => rfl
    | true =>
      have m : (Value.ref C) ∈ l := by simpa using c
      have := List.all_eq_true.mp h2 _ m
      cases this
theorem notFirst_ty {T : String} (h : (fastBuiltinMro T).map (fun l => l.all fun v => match v with | .type _ => true | _ => false) = some true) : PySem.W.notFirst K C (.type T) = true := by
  unfold PySem.W.notFirst
  rw [sub_ty h]
  simp
theorem kit_no {T : String} (hc : PySem.W.isClsIn K C = true) (ht : PySem.W.typeIn K (.ref C) = some (.type "type")) (h : (fastBuiltinMro T).map (fun l => l.all fun v => match v with | .type _ => true | _ => false) = some true) : PySem.W.kitOne K (.type T) (.ref C) = some false := by
  unfold PySem.W.kitOne PySem.W.kitCls
  unfold PySem.W.isClsIn at hc
  have hb : ((PySem.W.clsIn K C).isSome && PySem.W.typeIn K (.ref C) == some (.type "type")) = true := by
    rw [hc, ht]
    simp
  have sb := sub_ty (K := K) (C := C) h
  simp [hb, sb]
end
end So

/-! So, on: exceptions that are kept as values. -/
namespace So
open PySem PySem.Spec PyProof.Rows L2
/-- an exception object of the class cls, its dict at d, that stands at a and is nobody's news -/
def Xo (cls : Value) (d : Option Addr) (a : Addr) : HO := .ext fun h => ∃ (oe : Obj) (vs : Array Value), h.get? a = some oe ∧ Zc cls d oe ∧ oe.data = .fields vs
theorem xo_ok {P : Program} {w : World} {H : Hp} {h : Heap} {a : Addr} {cls : Value} {d : Option Addr} {oe : Obj} {vs : Array Value} (e : h.get? a = some oe) (z : Zc cls d oe) (f : oe.data = .fields vs) : ObjOk P w H h a (Xo cls d a) := by
  refine ⟨⟨oe, vs, e, z, f⟩, ⟨oe, e⟩, ?_⟩
  rintro h1 h2 ⟨o, v, q, r⟩ k
  exact ⟨o, v, k o q, r⟩
theorem xo_at {P : Program} {w : World} {H : Hp} {h : Heap} {a : Addr} {cls : Value} {d : Option Addr} (hok : HOk P w H h) (e : H a = some (Xo cls d a)) : ∃ (oe : Obj) (vs : Array Value), h.get? a = some oe ∧ Zc cls d oe ∧ oe.data = .fields vs := by
  have x : ObjOk P w H h a (.ext fun h => ∃ (oe : Obj) (vs : Array Value), h.get? a = some oe ∧ Zc cls d oe ∧ oe.data = .fields vs) := hok a _ e
  exact x.1
section
variable {X : Cx} {pins : List (Addr × Obj)} {σ : L2.St} {H : Hp} {s sI : Shared} {a : Addr} {cls : Value} {d : Option Addr} {oe : Obj} {vs : Array Value}
/-- an exception that has landed is tracked from now on -/
theorem track (J : Inv X pins σ H sI) (hex : X.ex = []) (hI : sI.heap.get? a = none) (I : Inv X pins σ H s) (he : s.heap.get? a = some oe) (hz : Zc cls d oe) (hd : oe.data = .fields vs) (na : H a = none) (nL : a ≠ X.env.locals) :
    Inv X pins σ (upd H a (Xo cls d a)) s := by
  have h0 : ∀ b o, X.s_0.heap.get? b = some o → b ≠ a := by
    rintro b o e rfl
    obtain ⟨o', e'⟩ := J.base.there b o e (by rw [hex]; exact fun z => nomatch z)
    rw [hI] at e'
    cases e'
  have hs : ∀ {b : Addr} {u : HO}, H b = some u → (upd H a (Xo cls d a)) b = some u := fun e => (upd_ne (ne_of_none e na)).trans e
  refine ⟨I.ok, I.os, I.bare, ⟨I.base.keep, I.base.slot, fun b o e n hx => (upd_ne (h0 b o e)).trans (I.base.free b o e n hx), I.base.there, fun b xs q => hs (I.base.tups b xs q), fun b o u q => hs (I.base.frzs b o u q), fun b ps q => ?_⟩,
    I.loc, I.cell, (upd_ne nL.symm).trans I.free, fun x c e => ?_, fun p hp => ?_, fun b u e => ?_, I.len⟩
  · obtain ⟨m, q'⟩ := I.base.tbls b ps q
    exact ⟨m, hs q'⟩
  · refine (upd_ne ?_).trans (I.freeC x c e)
    rintro rfl
    obtain ⟨v, o, ho, hc⟩ := I.cell x c e
    rw [he] at ho
    cases ho
    rw [hd] at hc
    cases hc
  · obtain ⟨p1, p2, p3, p4, p5⟩ := I.pin p hp
    refine ⟨p1, (upd_ne ?_).trans p2, p3, p4, p5⟩
    intro z
    have := (J.pin p hp).1
    rw [z, hI] at this
    cases this
  · by_cases hb : b = a
    · subst hb
      rw [upd_same] at e
      cases e
      exact xo_ok he hz hd
    · rw [upd_ne hb] at e
      exact (I.hok b u e).stay (fun _ _ _ q => q) (fun c q => hs q) fun c xs q => hs q
end

/-! ### try: body, except x as n: suite, the exception kept as a value -/
/-- what such a clause wishes of an exception of the body -/
def wKeep (K : PySem.W.Frag) (c : Value) (i : Nat) (ts : TS) (Wout : WX) (D : Ends) : WX := fun cls d σ H =>
  ∃ b, PySem.W.exmOne K cls c = some b ∧ (b = true → ∀ a, H a = none → ts { nx := fun σ' H' => D.nx (σ'.set i none) H', rt := D.rt, bk := fun σ' H' => D.bk (σ'.set i none) H', ct := fun σ' H' => D.ct (σ'.set i none) H' } (σ.set i (some (.ref a))) (upd H a (Xo cls d a))) ∧
    (b = false → Wout cls d σ H)
section
variable {X : Cx} {x n : Str} {c : Value} {i : Nat} {body suite : List Stmt} {b₀ : Stmt} {np pos pos' : Pos} {tb : WX → TS} {ts : TS} {Wout : WX}
theorem ps_try_keep (hs : X.stack = X.env :: X.outer) (hf : X.env.frame = some X.env.locals) (hex : X.ex = []) (hN : X.N.Nodup) (hi : X.N[i]? = some n) (hln : X.env.kindOf n = some .local) (hc : Names X x c) (tk : Takes X Wout)
    (hb : ∀ (W : WX) (pn : List (Addr × Obj)) (xe : Value → Shared → Prop), Takes (X.tr pn xe) W → PassesOwn (model X.prog X.w) X.A X.env xe → PSs (X.tr pn xe) body (tb W))
    (hsu : ∀ (a : Addr) (pn : List (Addr × Obj)), PSs (X.suite a pn) (b₀ :: suite) ts) :
    PS X (.Try body [.ExceptHandler (some (.Name x np)) (some n) (b₀ :: suite) pos'] [] [] pos) (fun D σ H => tb (wKeep X.K c i ts Wout D) D σ H) := by
  constructor
  intro pins s σ H D I h
  have ok := I.ok
  have hfr : X.A.frames = some (X.env :: X.outer) := ok.frames.trans (congrArg some hs)
  refine wpAny_Try_except (wpAny_mono ((hb (wKeep X.K c i ts Wout D) (X.pn ++ pins) (fun e s₁ => wpAny (model X.prog X.w) X.A (noteFrame e X.env) (fun _ s₂ => wpAny (model X.prog X.w) X.A (setFlight e none) (fun _ s₃ =>
    wpAny (model X.prog X.w) X.A (handleBy e X.env [.ExceptHandler (some (.Name x np)) (some n) (b₀ :: suite) pos']) (SP X pins D) X.xe s₃) X.xe s₂) X.xe s₁) (fun u s' xx => ?_) PassesOwn.looking).run [] s σ H D (I.toTry _) h) (fun f s1 hsp => ?_) fun e s1 he => he)
  · obtain ⟨a, B, sI, pins', σ', H', cls, d, rfl, J', nb, up, sky, na, os, ag, b, hb1, hyes, hno⟩ := xx
    have J : Inv X pins σ' H' sI := J'.ofTry ok
    have sky' : Sky B (X.env :: X.outer) a (Zc cls d) X.env.locals s'.heap := hs ▸ sky
    refine Sky.land Zc.steady hfr hf sky' fun h3 fl3 up3 => ?_
    have J3 : Inv X pins σ' H' { s' with heap := h3 } := J.landed nb fl3.1 (up.trans up3) os ag
    obtain ⟨oe3, vs3, he3, hz3, hd3⟩ := fl3.there
    have nfr : a ∉ frs (X.env :: X.outer) := fun hm => by
      obtain ⟨_, o', e', hnf⟩ := fl3.2.2.1.mem hm
      rw [he3] at e'
      cases e'
      exact hnf _ hd3
    have nL : a ≠ X.env.locals := fun z => nfr (by
      refine List.mem_filterMap.mpr ⟨X.env, List.mem_cons_self, ?_⟩
      rw [hf, z])
    have hBa : B.get? a = none := fl3.2.1
    have hIa : sI.heap.get? a = none := by
      cases e : sI.heap.get? a with
      | none => rfl
      | some o =>
        have := nb a o e (by rw [hs]; exact nfr)
        rw [hBa] at this
        cases this
    refine wpAny_handleBy_cons (codeAny_handlers_test ?_) (by intro q; cases q)
    have LT : PySem.W.Looks (model X.prog X.w) h3 (typeOf (.ref a)) cls := by
      intro A Q E s k q
      refine wpAny_typeOf_ref (k _ _ he3) ?_
      rw [hz3.1]
      exact q
    have LM := PySem.W.exm_one (M := model X.prog X.w) (J3.kIn) LT hb1
    have S0 : ∀ {h4 : Heap}, Inv X pins σ' H' { s' with heap := h4 } → ∀ {o : Obj} {v : Array Value}, h4.get? a = some o → Zc cls d o → o.data = .fields v → Inv (X.suite a (X.pn ++ pins)) [] σ' (upd H' a (Xo cls d a)) { s' with heap := h4 } := by
      intro h4 J4 o v e z dt
      have T := track J hex hIa J4 e z dt na nL
      exact ⟨T.ok.suite _ _, T.os, T.bare, T.base, T.loc, T.cell, T.free, T.freeC, fun p hp => T.pin p (by rwa [List.append_nil] at hp), T.hok, T.len⟩
    have S3 := S0 J3 he3 hz3 hd3
    have test : ∀ {Q : Value → Shared → Prop} {E : Value → Shared → Prop}, Q c { s' with heap := h3 } → wpAny (model X.prog X.w) (X.A.mark (some (.ref a))) (eval (.Name x np) X.env) Q E { s' with heap := h3 } := by
      intro Q E q
      rcases hc with ⟨hg, hdbg, hm | ⟨hm, hv, hnn⟩⟩
      · exact ld_glob (X := X.suite a (X.pn ++ pins)) S3 hg hm q hdbg
      · exact ld_blt (X := X.suite a (X.pn ++ pins)) S3 hg hm hv q hnn hdbg
    refine test (LM.here ?_)
    cases b with
    | true =>
      refine codeAny_handlers_suite_as (HandSPX.lands_againZ fl3 fun h4 fl4 up4 => ?_)
      have J4 : Inv X pins σ' H' { s' with heap := h4 } := J.landed nb fl4.1 ((up.trans up3).trans up4) os ag
      obtain ⟨oe4, vs4, he4, hz4, hd4⟩ := fl4.there
      have S4 := S0 J4 he4 hz4 hd4
      refine store_ok (X := X.suite a (X.pn ++ pins)) (v := .ref a) S4 hN hi (.inl hln) rfl (fun s5 S5 => ?_) (.inr hln)
      refine wpAny_mono ((hsu a (X.pn ++ pins)).run [] s5 _ _ _ S5 (hyes rfl a na)) (fun f s6 hsp => ?_) (fun _ _ z => z.elim)
      have out : ∀ {σ6 : L2.St} {H6 : Hp}, Inv (X.suite a (X.pn ++ pins)) [] σ6 H6 s6 → Inv X pins σ6 H6 s6 := fun S6 =>
        ⟨ok, S6.os, S6.bare, S6.base, S6.loc, S6.cell, S6.free, S6.freeC, fun p hp => S6.pin p (List.mem_append_left _ hp), S6.hok, S6.len⟩
      match f, hsp with
      | .next, ⟨σ6, H6, S6, q6⟩ => exact gone_ok (out S6) hN hi hln fun s7 J7 => ⟨_, _, J7, q6⟩
      | .brk, ⟨σ6, H6, S6, q6⟩ => exact gone_ok (out S6) hN hi hln fun s7 J7 => ⟨_, _, J7, q6⟩
      | .cont, ⟨σ6, H6, S6, q6⟩ => exact gone_ok (out S6) hN hi hln fun s7 J7 => ⟨_, _, J7, q6⟩
      | .ret u, ⟨v6, σ6, H6, S6, r6, q6⟩ => exact gone_ok (out S6) hN hi hln fun s7 J7 => ⟨_, _, _, J7, r6, q6⟩
    | false =>
      refine wpAny_handleBy_nil ?_
      obtain ⟨_, _, _, oe, vs, T, _, _, he, _, hd, h1, _⟩ := id fl3
      unfold PySem.passOn
      refine wpAny_bind (wpAny_field he hd h1 ?_)
      have nn : ¬ ((Value.ref T == Value.none) = true) := by simp
      rw [if_neg nn]
      have fin : wpAny (model X.prog X.w) X.A (setFlight (.ref a) X.env.frame) (fun _ s4 => wpAny (model X.prog X.w) X.A (throw (.ref a) : Sem Flow) (SP X pins D) X.xe s4) X.xe { s' with heap := h3 } := by
        rw [hf]
        refine HandSPX.setFlight_upZ fl3 fun h4 hh4 up4 => wpAny_throw (tk _ _ ⟨a, B, sI, pins, σ', H', cls, d, rfl, J, nb, (up.trans up3).trans up4, ?_, na, os, ag, hno rfl⟩)
        exact Or.inr (Or.inr (hs ▸ hh4))
      first
        | exact wpAny_bind (wpAny_pure (wpAny_bind fin))
        | exact wpAny_bind fin
  · match f, hsp with
    | .next, ⟨σ', H', J', q⟩ => exact wpAny_execs_nil ⟨σ', H', J'.ofTry ok, q⟩
    | .brk, ⟨σ', H', J', q⟩ => exact ⟨σ', H', J'.ofTry ok, q⟩
    | .cont, ⟨σ', H', J', q⟩ => exact ⟨σ', H', J'.ofTry ok, q⟩
    | .ret u, ⟨v, σ', H', J', r, q⟩ => exact ⟨v, σ', H', J'.ofTry ok, r, q⟩
end
end So

namespace So
open PySem PySem.Spec PyProof.Rows L2
/-- what an error class of the program's own says of its instances -/
structure Err (K : PySem.W.Frag) (C : Addr) : Prop where
  ga : PySem.W.findIn K (.ref C) "__getattribute__" = some (some (.builtin "BaseException.__getattribute__"))
  gg : PySem.W.findIn K (.ref C) "__getattr__" = some none
  exC : PySem.W.subIn K (.ref C) (.type "BaseException") = some true
  hdC : PySem.W.hasDictIn K C = true
  ca : PySem.W.findIn K (.ref C) "__class__" = some (some (.builtin "object.__class__"))
  cn : PySem.W.specialIn K (.builtin "object.__class__") "__get__" = some (some (.builtin "getset_descriptor.__get__"))
  ct : PySem.W.takesIn K (.builtin "object.__class__") = some true
  cm : PySem.W.mroIn K C (.type "object") = some true
section
variable {X : Cx}
/-- e.n, e an exception that is kept -/
theorem pe_xo {C : Addr} {e : Expr} {te : TE} {pos : Pos} {n : Str} (T : Err X.K C) (hno : PySem.W.findIn X.K (.ref C) n = some none) (he : PE X e te) (hb : attributeBase e n X.env (eval e X.env) = eval e X.env := by rfl) :
    PE X (.Attribute e n pos) (fun σ H Q => te σ H fun x H1 => ∃ (a dd : Addr) (fs : List (Str × V)) (v : V), x = .ref a ∧ H1 a = some (Xo (.ref C) (some dd) a) ∧ H1 dd = some (.xd fs) ∧ fs.lookup n = some v ∧ Q v H1) := by
  constructor
  intro pins s σ H Q I h
  refine attr_of hb (thn (he.run pins s σ H _ I h) fun u s1 hh => ?_)
  obtain ⟨x, H1, I1, rx, a, dd, fs, v, rfl, ha, ea, l, q⟩ := hh
  cases rx
  obtain ⟨oe, vs, hg, hz, hd⟩ := xo_at I1.hok ha
  obtain ⟨mA, hns, hr⟩ := (show ObjOk X.prog X.w H1 s1.heap dd (.xd fs) from I1.hok dd _ ea)
  obtain ⟨od, ho, hl⟩ := lookIn_ns hns
  have hrn := hr n
  rw [l] at hrn
  obtain ⟨u, hu, ru⟩ := RelO.some_of hrn
  have nc : PySem.W.notCls oe = true := by
    unfold PySem.W.notCls
    rw [hd]
  have J : PySem.W.InstAt s1.heap a oe C (some od) := by
    refine ⟨hg, hz.1, nc, ?_⟩
    rw [hz.2]
    exact ho
  have fo := PySem.W.findObj_own (K := X.K) (C := C) (od := od) (name := n) (v := u) T.hdC hno rfl (by rw [hl, hu])
  exact HandSPX.exc_get I1.kIn J T.ga T.gg T.exC fo (handed_of ru) ⟨v, H1, I1.tok _, ru, q⟩
end
/-! ### isinstance of a kept exception -/
section
open PySem.W PySem.Calls
variable {prog : Program} {w : World} {A : Around} {E : Value → Shared → Prop} {K : Frag} {x D : Addr} {ox : Obj} {od : Option Obj}
theorem err_class {Q : Option Value → Shared → Prop} (T : Err K D) (hp : Heap) (g : Array GenState) (dr : Drawn) (t : Nat) (os : OsState) (X : K.In hp) (I : InstAt hp x ox D od)
    (h : Q (some (.ref D)) ⟨hp, g, dr, t + 1, os⟩) : wpAny (model prog w) A (getAttr? (.ref x) "__class__") Q E ⟨hp, g, dr, t, os⟩ := by
  have isc : (clsIn K D).isSome = true := by
    obtain ⟨cd, hc, _⟩ := any_some T.hdC
    rw [hc]
    rfl
  have hf : findObj K D od "__class__" = some (.bind (.builtin "getset_descriptor.__get__") (.builtin "object.__class__")) := by
    cases od with
    | none => exact findObj_dataN isc T.ca T.cn T.ct
    | some o => exact findObj_data isc T.ca T.cn T.ct
  have k0 := I.type (M := model prog w)
  have k1 := looks_findIn (M := model prog w) X T.ga
  have k2 := looks_findIn (M := model prog w) X T.gg
  have k3 := looks_find (M := model prog w) X I hf
  have below : Looks (model prog w) hp (isInstance (.ref x) (.type "BaseException")) true := k0.andThen (looks_subIn X T.exC)
  have ne : (Value.builtin "BaseException.__getattribute__" == Value.builtin "object.__getattribute__") = false := by decide +kernel
  have both : (onTheHeap (Value.ref D) && Value.builtin "BaseException.__getattribute__" == Value.builtin "object.__getattribute__") = false := by
    rw [ne]
    exact Bool.and_false _
  have own : onTheHeap (Value.ref D) = true := rfl
  have noheap : (false && onTheHeap (Value.builtin "BaseException.__getattribute__")) = false := rfl
  unfold getAttr? getAttrBy? getAttrBy
  apply wpAny_bind
  apply wpAny_mkText
  apply wpAny_bind
  apply wpAny_attempt
  apply wpAny_holding
  apply wpAny_bind
  apply k0.at
  apply wpAny_bind
  apply k1.at
  show wpAny _ _ (ite ((onTheHeap (Value.ref D) && Value.builtin "BaseException.__getattribute__" == Value.builtin "object.__getattribute__") = true) _ _) _ _ _
  rw [both, if_neg (by decide)]
  unfold getAttrByItsOwn hookBefore
  apply wpAny_bind
  rw [if_pos own]
  apply k2.at
  apply wpAny_bind
  apply wpAny_attempt
  apply wpAny_holding
  unfold callGetattribute
  rw [noheap, if_neg (by decide)]
  unfold boundAndCalled
  rw [F.excAttr_ValueError.ga.bind (.ref x)]
  apply wpAny_bind
  apply wpAny_pure
  show wpAny _ _ (call (.builtin "BaseException.__getattribute__") [.ref x, .str "__class__" t]) _ _ _
  apply wpAny_call
  refine codeAny_call_builtin F.excAttr_ValueError.ga.plain F.entry_bexc_ga (@check_slot (model prog w) _ _ ⟨hp, g, dr, t + 1, os⟩ "BaseException.__getattribute__" "BaseException" "__getattribute__" (.ref x) [.str "__class__" t] [] _ (by decide +kernel) (by decide +kernel) below (F.args_bexc_ga (.ref x) (.str "__class__" t)) ?_)
  unfold Builtin.«object.__getattribute__»
  apply wpAny_bind
  refine wpAny_of_eq (a := ((Value.ref x : Value), [Value.str "__class__" t])) (by first | rfl | (simp only [slotArgs]; rfl)) ?_
  apply wpAny_bind
  apply wpAny_pure
  apply wpAny_bind
  apply k0.at
  apply wpAny_bind
  apply k3.at
  show wpAny _ _ (holding [Value.builtin "object.__class__"] (call (.builtin "getset_descriptor.__get__") [.builtin "object.__class__", .ref x, .ref D]) >>= ret) _ _ _
  apply wpAny_bind
  apply wpAny_holding
  apply wpAny_call
  refine class_get (s := ⟨hp, g, dr, t + 1, os⟩) (ox := ox) (od := od) X I T.cm (wpAny_pure ?_)
  show wpAny _ _ (handedOut (.ref D)) _ _ _
  rw [handedOut_of (v := .ref D) rfl]
  first
    | exact wpAny_pure (wpAny_pure h)
    | exact wpAny_pure h
    | exact wpAny_pure (wpAny_bind (wpAny_pure (wpAny_pure h)))
theorem kitx_err (T : Err K D) : KitX K (.ref x) (.ref D) (fun h => ∃ ox od, InstAt h x ox D od) where
  ty := fun _ _ _ ⟨_, _, I⟩ => I.type
  it := fun _ _ X _ => by
    obtain ⟨cd, hc, _⟩ := any_some T.hdC
    unfold clsIn at hc
    split at hc
    · rename_i ho
      intro A' Q' E' s' k q
      unfold isType loadHead
      exact wpAny_bind (wpAny_loadPart (k _ _ (X _ _ ho)) (wpAny_pure q))
    · cases hc
  ne := fun h tp dd its n sl X htp => by
    cases q : (Value.ref D == Value.ref tp) with
    | false => rfl
    | true =>
      have e : D = tp := Value.ref.inj (beq_iff_eq.mp q)
      subst e
      obtain ⟨cd, hc, _⟩ := any_some T.hdC
      unfold clsIn at hc
      split at hc
      · rename_i ho
        have z := (X _ _ ho).symm.trans htp
        cases z
      · cases hc
  ca := fun {prog w A E Q s} X I k => by
    obtain ⟨ox, od, I⟩ := I
    obtain ⟨hp, g, dr, t, os⟩ := s
    exact err_class T hp g dr t os X I k
end
section
variable {X : Cx}
/-- isinstance(e, c), e a kept exception, c one class -/
theorem call_isXo : CallR X (.builtin "isinstance") (fun xs H Q => ∃ (a D dd : Addr) (fs : List (Str × V)) (c : V) (u : Value) (b : Bool), xs = [.ref a, c] ∧ H a = some (Xo (.ref D) (some dd) a) ∧ H dd = some (.xd fs) ∧ Err X.K D ∧ ClsV c u ∧ PySem.W.kitOne X.K (.ref D) u = some b ∧ Q (.bl b) H) := by
  intro pins s σ H xs us Q I r h
  obtain ⟨a, D, dd, fs, c, u, b, rfl, ha, hd, T, cv, e, q⟩ := h
  obtain ⟨u1, u2, rfl, r1, r2⟩ := vals2 r
  cases r1
  have e2 := cv.eq r2
  subst e2
  obtain ⟨oe, vs, hg, hz, hdat⟩ := xo_at I.hok ha
  obtain ⟨mA, hns, _⟩ := (show ObjOk X.prog X.w H s.heap dd (.xd fs) from I.hok dd _ hd)
  obtain ⟨od, ho, _⟩ := lookIn_ns hns
  have nc : PySem.W.notCls oe = true := by
    unfold PySem.W.notCls
    rw [hdat]
  have J : PySem.W.InstAt s.heap a oe D (some od) := by
    refine ⟨hg, hz.1, nc, ?_⟩
    rw [hz.2]
    exact ho
  exact PySem.W.kia_one (kitx_err T) I.kIn ⟨oe, some od, J⟩ e (fun z => nomatch z) fun tk => ⟨.bl b, H, I.tok tk, rfl, q⟩
end
end So

namespace So
open PySem PySem.Spec PyProof.Rows L2
/-- C.m is a static method: its record at p, its def at g -/
structure Sta (K : PySem.W.Frag) (C : Addr) (mc : Value) (m : Str) (p g : Addr) : Prop where
  rd : PySem.W.readsIn K C mc = true
  ga : PySem.W.specialIn K (.ref C) "__getattribute__" = some (some (.builtin "type.__getattribute__"))
  at_ : PySem.W.findCls K (.ref C) mc m = some (.get (.builtin "staticmethod.__get__") (.ref p) .none (.ref C))
  rc : ∃ rest, PySem.W.recIn K p "staticmethod" = some (.ref g :: rest)
  kp : PySem.W.keepIn K (.ref g) = true
section
variable {X : Cx} {CX : CXT} {k : Nat} {C f p0 : Addr} {mc : Value} {fd : FuncData} {ps ks : List Str} {sp : Sp} {E : XK} {m : Str} {pos apos : Pos} {e o : Expr} {es : List Expr} {kws : List Keyword} {ta : TE} {t tk : TA}
theorem getsta_ok {pins : List (Addr × Obj)} {σ : L2.St} {H : Hp} {s : Shared} {pl : Sem Bool} {A : Around} {E' : Value → Shared → Prop} {Q : Value × List Value → Shared → Prop} (I : Inv X pins σ H s) (S : Sta X.K C mc m p0 f) (h : ∀ s', Inv X pins σ H s' → Q (.ref f, []) s') :
    wpAny (model X.prog X.w) A (getMethod (.ref C) m pl) Q E' s := by
  obtain ⟨rest, hp⟩ := S.rc
  refine PySem.W.method_cls I.kIn S.ga (PySem.W.cls_bind I.kIn S.rd S.at_ (wpAny_call (PySem.W.sm_get (s := { s with toks := s.toks + 1 }) I.kIn hp (PySem.W.handed_on rfl ?_))))
  exact h _ (I.tok _)
/-- C.m(e, ..), m static -/
theorem pe_sta {pl : Sem Bool} (he : PE X o ta) (S : Sta X.K C mc m p0 f) (F : FnOk X.prog X.w X.K X.mg X.base CX k f fd ps sp) (hr : Room k X.A) (hb : Binds X.K fd ps []) (hx : Passes CX X E) (ha : PA X (e :: es) t)
    (hst : starEach (e :: es) X.env = (false, eval e X.env) :: starEach es X.env := by rfl) (hpl : (backTo pos (starEach es X.env)).any (·.1) = false := by rfl)
    (ht : eval (.Call (.Attribute o m apos) (e :: es) [] pos) X.env = (do
      let ov ← eval o X.env
      standAt apos.atName
      let fx ← holding [ov] (getMethod ov m pl)
      callWith pos fx.1 fx.2 (backTo pos (starEach (e :: es) X.env)) (backToKw pos (keywordEach [] X.env))) := by rfl) :
    PE X (.Call (.Attribute o m apos) (e :: es) [] pos) (fun σ H Q => ta σ H fun x H1 => x = .ref C ∧ t σ H1 fun vs H2 => sp vs H2 Q E) := by
  constructor
  intro pins s σ H Q I h
  refine PySem.W.methodCall_KW (pl := pl) (thn (he.run pins s σ H _ I h) fun u s1 z => ?_) ht
  obtain ⟨x, H1, I1, rx, rfl, q⟩ := z
  cases rx
  refine getsta_ok I1 S fun s2 I2 => PySem.W.callWith_K (first := []) (h₀ := X.base) I2.ok.mod.kin S.kp (thn (ha.run pos pins s2 σ H1 _ I2 q) fun us s3 z => ?_) hst hpl
  obtain ⟨vs, H2, I3, r, q2⟩ := z
  refine ⟨I3.kIn, ?_⟩
  have q3 : sp (vs ++ []) H2 Q E := by
    rw [List.append_nil]
    exact q2
  exact run_fn F hr hb .nil hx I3 r q3
/-- C.m(k = v, ..), m static, keywords alone -/
theorem pe_staK {g : List Value → List Value → List Value} {gV : List V → List V → List V} {pl : Sem Bool} (he : PE X o ta) (S : Sta X.K C mc m p0 f) (F : FnOk X.prog X.w X.K X.mg X.base CX k f fd ps sp) (hr : Room k X.A) (hb : KBinds X.K fd ps ks g gV) (hx : Passes CX X E)
    (hkw : PK X kws tk) (hall : (backToKw pos (keywordEach kws X.env)).all (·.1.isSome) = true := by rfl) (hks : (backToKw pos (keywordEach kws X.env)).filterMap (·.1) = ks := by rfl)
    (hpl : ((backTo pos (starEach [] X.env)).any (·.1) || (backToKw pos (keywordEach kws X.env)).any (·.1.isNone)) = false := by rfl)
    (ht : eval (.Call (.Attribute o m apos) [] kws pos) X.env = (do
      let ov ← eval o X.env
      standAt apos.atName
      let fx ← holding [ov] (getMethod ov m pl)
      callWith pos fx.1 fx.2 (backTo pos (starEach [] X.env)) (backToKw pos (keywordEach kws X.env))) := by rfl) :
    PE X (.Call (.Attribute o m apos) [] kws pos) (fun σ H Q => ta σ H fun x H1 => x = .ref C ∧ tk σ H1 fun zs H2 => sp (gV [] zs) H2 Q E) := by
  constructor
  intro pins s σ H Q I h
  refine PySem.W.methodCall_KW (pl := pl) (thn (he.run pins s σ H _ I h) fun u s1 z => ?_) ht
  obtain ⟨x, H1, I1, rx, rfl, q⟩ := z
  cases rx
  refine getsta_ok I1 S fun s2 I2 => PySem.W.callWith_KW0 (first := []) (h₀ := X.base) I2.ok.mod.kin S.kp hall (thn (hkw.run pos pins s2 σ H1 _ I2 q) fun ws s3 z => ?_) hpl
  obtain ⟨zs, H2, I3, rz, q2⟩ := z
  refine ⟨I3.kIn, ?_⟩
  rw [hks]
  exact run_fnk (us := []) (vs := []) F hr hb hx I3 .nil rz q2
/-- ~o by an own __invert__ -/
theorem un_invOwn (F : FnOk X.prog X.w X.K X.mg X.base CX k f fd ps sp) (hs : PySem.W.findIn X.K (.ref C) "__invert__" = some (some (.ref f))) (hf : PySem.W.isFn X.K (.ref f) = true) (hb : Binds X.K fd ps []) (hx : Passes CX X E) (hr : Room k X.A) :
    UnR X (unaryOp .Invert) (fun x H Q => ∃ a dx fs, x = .ref a ∧ H a = some (.ins C dx fs) ∧ sp [.ref a] H Q E) := by
  intro pins s σ H x v Q I rx h
  obtain ⟨a, dx, fs, rfl, ha, q⟩ := h
  cases rx
  obtain ⟨mA, J, _⟩ := ins_get I.hok ha
  obtain ⟨od, J, _⟩ := J.look
  obtain ⟨m, hF⟩ := I.fr
  refine PySem.W.ksp_inv hF I.ok.mod.kin J hs hf ?_
  exact run_fn (us := [.ref a]) (vs := [.ref a]) F hr hb .nil hx I (.cons rfl .nil) q
end
end So

namespace So
open PySem PySem.Spec PyProof.Rows L2
/-! ### own errors with one field -/
/-- the __init__ of such an error: the field is what was passed -/
def spOneE (C : Addr) (n : Str) : Sp := fun vs H Q _ => ∃ (a : Addr) (v : V), vs = [.ref a, v] ∧ H a = some (exo a C none) ∧ ∀ dx, H dx = none → dx ≠ a → Q .non (upd (upd H dx (exd dx [(n, v)])) a (exo a C (some dx)))
/-- what the top says of such an error: its class at C, named x, its field n, its __init__ at f -/
structure OneE (K : PySem.W.Frag) (mg : Str → Option Value) (x n : Str) (C f : Addr) (fd : FuncData) : Prop where
  T : OexC K C
  iC : PySem.W.findIn K (.ref C) "__init__" = some (some (.ref f))
  tI : PySem.W.typeIn K (.ref f) = some (.type "function")
  mgC : mg x = some (.ref C)
  no : PySem.W.findIn K (.ref C) n = some none
  err : Err K C
  hb : Binds K fd ["self", n] []
/-- behind C(v) -/
theorem mkOne {C : Addr} {n : Str} {vs : List V} {v : V} {H1 : Hp} {Q : XK} (e : vs = [v]) (h : ∀ d H', Same H1 H' → H1 d = none → H' d = some (.xd [(n, v)]) → Q (.ref C) (some d) H') :
    vs.length ≤ 1000 ∧ ∀ a, H1 a = none → spOneE C n (.ref a :: (vs ++ [])) (upd H1 a (exo a C none))
      (fun v H2 => v = .non ∧ ∃ (d : Addr) (fs : List (Str × V)), H2 a = some (exo a C (some d)) ∧ H2 d = some (exd d fs) ∧ H1 d = none ∧ Q (.ref C) (some d) (upd (del H2 a) d (.xd fs))) (fun _ _ _ => False) := by
  subst e
  refine ⟨by show 1 ≤ 1000; decide, fun a ha => ⟨a, v, rfl, upd_same, fun dx hdx ne => ⟨rfl, dx, [(n, v)], upd_same, ?_, ?_, h dx _ (fun b o hb => ?_) ?_ upd_same⟩⟩⟩
  · rw [upd_ne ne, upd_same]
  · rw [upd_ne ne] at hdx
    exact hdx
  · rw [upd_ne ne] at hdx
    have hba : b ≠ a := ne_of_none hb ha
    have hbd : b ≠ dx := ne_of_none hb hdx
    rw [upd_ne hbd, del_ne hba, upd_ne hba, upd_ne hbd, upd_ne hba]
    exact hb
  · rw [upd_ne ne] at hdx
    exact hdx
section
variable {X : Cx} {x n : Str} {C f : Addr} {fd : FuncData} {ta : TA} {e : Expr} {p pos pos2 : Pos}
theorem pmk_one (O : OneE X.K X.mg x n C f fd) (F : FnOk X.prog X.w X.K X.mg X.base CX0 1 f fd ["self", n] (spOneE C n)) (hr : Room 2 X.A) (hg : Gl X x) (ha : PA X [e] ta)
    (hdb : (x == ("__debug__" : Str)) = false := by decide) (he : starEach [e] X.env = (false, eval e X.env) :: starEach [] X.env := by rfl) (hpl : (backTo pos (starEach [] X.env)).any (·.1) = false := by rfl) :
    PMk X (.Call (.Name x p) [e] [] pos) (tMkO C (spOneE C n) [] ta) :=
  pmk_oex O.T O.iC O.tI F hr O.hb .nil (fun _ _ _ _ _ _ _ h => h.elim) hg O.mgC ha hdb he hpl
/-- raise C(e) -/
theorem ps_raiseOne {W : WX} (O : OneE X.K X.mg x n C f fd) (F : FnOk X.prog X.w X.K X.mg X.base CX0 1 f fd ["self", n] (spOneE C n)) (hc : X.calm = true) (hr : Room 2 X.A) (tk : Takes X W) (hg : Gl X x) (ha : PA X [e] ta)
    (hdb : (x == ("__debug__" : Str)) = false := by decide) (he : starEach [e] X.env = (false, eval e X.env) :: starEach [] X.env := by rfl) (hpl : (backTo pos (starEach [] X.env)).any (·.1) = false := by rfl) :
    PS X (.Raise (some (.Call (.Name x p) [e] [] pos)) none pos2) (fun _ σ H => tMkO C (spOneE C n) [] ta σ H fun cls d H' => W cls d σ H') := ps_raise hc tk (pmk_one O F hr hg ha hdb he hpl)
end

/-! ### repr of data, of a tuple of a text and an empty dict -/
section
variable {X : Cx}
theorem call_reprT (hg : X.A.guards = some []) (hu : X.A.units + 64 < cLine) : CallR X (.builtin "repr") (fun xs H Q => ∃ (r a : Addr) (w : Str), xs = [.ref r] ∧ SqT X.K H r [.str w, .ref a] ∧ H a = some (.dK []) ∧ (PyData.tuple [.str w, .dict []]).shown.length ≤ sizeLine ∧ Q (.str (PyData.tuple [.str w, .dict []]).shown) H) := by
  intro pins s σ H xs us Q I r h
  obtain ⟨rr, a, w, rfl, ht, ha, hz, q⟩ := h
  obtain ⟨u, rfl, rv⟩ := vals1 r
  cases rv
  obtain ⟨its, rw', ⟨o, ho, hc, n, hd⟩, _⟩ := I.tuple ht
  obtain ⟨hz2, hsm, vs, hk, hD⟩ : ([] : List (Key × V)).length ≤ sizeLine ∧ (a == sysModules) = false ∧ ∃ vs, KV [] vs ∧ s.heap.DictOf (mixKind X.prog X.w) a vs := I.hok a _ ha
  obtain ⟨u1, u2, rfl, r1, r2⟩ := vals2 rw'
  obtain ⟨t1, rfl⟩ := r1
  cases r2
  obtain ⟨o2, es, ep, e1, e2, e3, _, e5, _⟩ := hD
  cases hk
  have es0 : es.toList = [] := by
    cases h : es.toList with
    | nil => rfl
    | cons y ys =>
      rw [h] at e5
      cases e5
  have rdD : Reads s.heap (.ref a) (.dict []) (a :: [] ++ []) := Reads.dict (kvs := []) e1 e2.1 e3 (by rw [es0]; exact ReadsAll.nil) (by rw [es0]; exact ReadsAll.nil)
  have rd : Reads s.heap (.ref rr) (.tuple [.str w, .dict []]) ([] ++ ((a :: [] ++ []) ++ [])) := Reads.tuple ho hc hd (ReadsAll.cons (Reads.str w t1) (ReadsAll.cons rdD ReadsAll.nil))
  refine repr_of_reads' rd rfl (fun _ z => ?_) hg (by show X.A.units + (2 + 1) < cLine; omega) (fun _ _ e => e) (fun h' t tk k => ?_) hz
  · have : sysModules = a := by simpa using z
    rw [this] at hsm
    simp at hsm
  · exact ⟨.str _, H, I.kept k, ⟨t, rfl⟩, q⟩
theorem CallR.or {b : Value} {r r' : List V → Hp → VK → Prop} (h : CallR X b r) (h' : CallR X b r') : CallR X b (fun xs H Q => r xs H Q ∨ r' xs H Q) := by
  intro pins s σ H xs us Q I rv q
  exact q.elim (h pins s σ H xs us Q I rv) (h' pins s σ H xs us Q I rv)
end
end So

namespace K13
open PySem PySem.Spec PyProof.Rows L2 So
/-! ### the text -/
def topS (i : Nat) : Stmt := PySem.Challenge.pw_soundtill_k13_pairs_of_rows.main.body.getD i (.Pass ⟨0, 0, 0, 0⟩)
abbrev sPen : Stmt := topS 52
abbrev sDraw : Stmt := topS 53
abbrev sPick : Stmt := topS 54
theorem scPen : FnScope ["_law_script"] ["_law_script"] (defScope sPen) := ⟨rfl, rfl, rfl, by decide +kernel, rfl, by decide +kernel, by decide +kernel⟩
theorem scDraw : FnScope ["_law_pen_here", "_law_many", "_law_digit", "_law_at", "_law_cell", "_law_great", "_law_mixed"] ["_law_pen_here", "_law_many"] (defScope sDraw) := ⟨rfl, rfl, rfl, by decide +kernel, rfl, by decide +kernel, by decide +kernel⟩
theorem scPick : FnScope ["_law_pen_here", "_law_some"] ["_law_pen_here", "_law_some"] (defScope sPick) := ⟨rfl, rfl, rfl, by decide +kernel, rfl, by decide +kernel, by decide +kernel⟩

/-! ### the pen -/
/-- the pen at p: the cells at l, how many were begun, what is left of a great one -/
structure Pen (H : Hp) (p l : Addr) (ns : List Int) (n : Nat) (g : Int) : Prop where
  pen : H p = some (.lst [.ref l, .int n, .int g])
  cells : H l = some (.lst (ns.map V.int))
  left : 0 ≤ g
/-- all that was tracked beside p is as it was -/
def Off (p : Addr) (H H' : Hp) : Prop := ∀ b o, b ≠ p → H b = some o → H' b = some o
theorem Off.refl {p : Addr} {H : Hp} : Off p H H := fun _ _ _ e => e
theorem Off.trans {p : Addr} {H H1 H2 : Hp} (a : Off p H H1) (b : Off p H1 H2) : Off p H H2 := fun c o n e => b c o n (a c o n e)
theorem Off.upd {p : Addr} {H H1 : Hp} {o : HO} (a : Off p H H1) : Off p H (upd H1 p o) := fun c u n e => by
  rw [upd_ne n]
  exact a c u n e
theorem Off.new {p q : Addr} {H H1 : Hp} {o : HO} (a : Off p H H1) (h : H1 q = none) : Off p H (L2.upd H1 q o) := fun c u n e => by
  have e1 := a c u n e
  rw [upd_ne (ne_of_none e1 h)]
  exact e1
theorem dp_ints {K : PySem.W.Frag} {H : Hp} : ∀ ns : List Int, DpAll K H (ns.map V.int) (ns.map PyData.int)
  | [] => .nil
  | n :: r => .cons (.int n) (dp_ints r)
theorem depth_ints : ∀ ns : List Int, PyData.depthAll (ns.map PyData.int) ≤ 1
  | [] => by simp [PyData.depthAll]
  | n :: r => by
    have h := depth_ints r
    simp only [List.map_cons, PyData.depthAll, PyData.depth]
    omega
theorem shaped_ints (ns : List Int) : SeqAt.shaped (.list (ns.map PyData.int)) = true := by
  unfold SeqAt.shaped
  rw [Bool.and_eq_true]
  have hd := depth_ints ns
  refine ⟨?_, decide_eq_true ?_⟩
  · show PyData.canLay0 _ = true
    simp only [PyData.canLay0]
    induction ns with
    | nil => rfl
    | cons a r ih => simpa [PyData.canLayAll0, PyData.canLay0] using ih (depth_ints r)
  · simp only [PyData.depth]
    omega
theorem Pen.apart {H : Hp} {p l : Addr} {ns : List Int} {n : Nat} {g : Int} (h : Pen H p l ns n g) : l ≠ p := by
  refine ne_of h.cells h.pen (fun z => ?_)
  injection z with z
  cases ns with
  | nil => cases z
  | cons a r => cases z
theorem eqv_nil (ds : List PyData) : PyData.eqv (.list ds) (.list []) = ds.isEmpty := by
  cases ds <;> simp [PyData.eqv, PyData.eqvAll]
section
variable {P : Program} {w : World} {K : PySem.W.Frag} {mg : Str → Option Value} {base : Heap}
def spDraw : Sp := fun vs H Q _ => ∃ (p l : Addr) (ns : List Int) (n : Nat) (g many : Int), vs = [.ref p, .int many] ∧ Pen H p l ns n g ∧ n < 1000000 ∧ 0 < many ∧ many.natAbs < 2 ^ 200 ∧
  ∀ (d : Int) (n' : Nat) (g' : Int) (H' : Hp), 0 ≤ d → d < many → n' ≤ n + 1 → Off p H H' → Pen H' p l ns n' g' → Q (.int d) H'
theorem ok_draw {f : Addr} {fd : FuncData} (F : Fun K "_law_draw" "_law_draw" sDraw f fd) (ml : mg "len" = none) (mi : mg "int" = none) (ma : mg "abs" = none) : FnOk P w K mg base CX0 1 f fd ["_law_pen_here", "_law_many"] spDraw := by
  refine F.ok scDraw (fun vs H Q E h => ?_) (fun cdv A outer s H vs Q E hr h => ?_)
  · obtain ⟨p, l, ns, n, g, many, rfl, _⟩ := h
    rfl
  · obtain ⟨p, l, ns, n, g, many, rfl, hp, hn, hm, hm2, q⟩ := h
    refine ⟨_, pss_cons (ps_if (pt_cmpR op_gt (pe_ix ix_list (pv 0) pe_int (fun _ _ => rfl)) pe_int (nomark _))
        (pss_cons (ps_set (i := 2) scDraw.nd rfl (.inl rfl) (pe_op op_mod (pe_callTy call_int1 (by rfl) mi (by decide +kernel) (pa_cons (pe_ix ix_list (pv 0) pe_int (fun _ _ => rfl)) pa_nil)) (pv 1)))
        (pss_cons (ps_asg (pe_op op_fdivW (pe_callTy call_int1 (by rfl) mi (by decide +kernel) (pa_cons (pe_ix ix_list (pv 0) pe_int (fun _ _ => rfl)) pa_nil)) (pv 1)) (pg_sub (pv 0) pe_int set_list))
        (pss_one (ps_ret (pv 2))))) pss_nil)
      (pss_cons (ps_set (i := 3) scDraw.nd rfl (.inl rfl) (pe_ix ix_list (pv 0) pe_int (fun _ _ => rfl)))
      (pss_cons (ps_asg (pe_op op_add (pv 3) pe_int) (pg_sub (pv 0) pe_int set_list))
      (pss_cons (ps_set (i := 4) scDraw.nd rfl (.inl rfl) (pe_op op_add (pe_op op_mul pe_int (pv 3)) pe_int))
      (C8.pss_cut (ps_if (pt_cmpR (op_neD (by have := hr.units; exact this)) (pe_ix ix_list (pv 0) pe_int (fun _ _ => rfl)) (pe_lst pa_nil) (nomark _))
        (pss_one (ps_set (i := 4) scDraw.nd rfl (.inl rfl) (pe_ix ix_list (pe_ix ix_list (pv 0) pe_int (fun _ _ => rfl)) (pe_op op_mod (pe_callTy call_int1 (by rfl) mi (by decide +kernel) (pa_cons (pv 3) pa_nil)) (pe_callB call_len_seq (by rfl) ml PySem.boot_len (pa_cons (pe_ix ix_list (pv 0) pe_int (fun _ _ => rfl)) pa_nil))) (fun _ _ => rfl)))) pss_nil)
      (pss_cons (ps_if (PW.pt (pw_and (pt_cmpR op_lt (pv 3) (pe_callB call_len_seq (by rfl) ml PySem.boot_len (pa_cons (pe_ix ix_list (pv 0) pe_int (fun _ _ => rfl)) pa_nil)) (nomark _))
            (pw_and1 (pt_cmpR op_ge (pe_callB call_abs (by rfl) ma (by decide +kernel) (pa_cons (pv 4) pa_nil)) (pe_op op_pow pe_int pe_int) (nomark _)))))
        (pss_cons (ps_set (i := 5) scDraw.nd rfl (.inl rfl) (pe_op op_add (pe_op op_mul pe_int (pe_op op_sub (pe_callB call_abs (by rfl) ma (by decide +kernel) (pa_cons (pv 4) pa_nil)) (pe_op op_pow pe_int pe_int)))
            (pe_callTy call_int1 (by rfl) mi (by decide +kernel) (pa_cons (pe_cmpR op_lt (pv 4) pe_int (nomark _)) pa_nil))))
        (pss_cons (ps_asg (pe_op op_fdivW (pe_callTy call_int1 (by rfl) mi (by decide +kernel) (pa_cons (pv 5) pa_nil)) (pv 1)) (pg_sub (pv 0) pe_int set_list))
        (pss_one (ps_ret (pe_op op_mod (pe_callTy call_int1 (by rfl) mi (by decide +kernel) (pa_cons (pv 5) pa_nil)) (pv 1)))))) pss_nil)
      (pss_cons (ps_set (i := 6) scDraw.nd rfl (.inl rfl) (pe_op op_mod (pe_callTy call_int1 (by rfl) mi (by decide +kernel) (pa_cons
          (pe_op op_pow (pe_op op_add (pe_op op_add (pe_op op_mod (pe_callTy call_int1 (by rfl) mi (by decide +kernel) (pa_cons (pv 4) pa_nil)) pe_int) (pe_op op_mul pe_int (pv 3))) pe_int) pe_int) pa_nil)) pe_int))
      (pss_cons (ps_set (i := 6) scDraw.nd rfl (.inl rfl) (pe_op op_mod (pe_callTy call_int1 (by rfl) mi (by decide +kernel) (pa_cons
          (pe_op op_pow (pe_op op_add (pe_op op_add (pe_op op_mul (pv 6) (pe_op op_add (pe_op op_mul pe_int (pv 3)) pe_int)) (pe_op op_mul (pe_op op_mul pe_int (pv 3)) (pv 3))) pe_int) pe_int) pa_nil)) pe_int))
      (pss_one (ps_ret (pe_op op_mod (pe_callTy call_int1 (by rfl) mi (by decide +kernel) (pa_cons (pe_op op_fdiv (pv 6) pe_int) pa_nil)) (pv 1))))))))))), ?_⟩
    have hP : SqL K H p [.ref l, .int n, .int g] := SqL.of hp.pen
    refine ⟨_, rfl, p, _, 2, _, rfl, rfl, hP, atI_nat (j := 2) rfl, _, _, rfl, rfl, _, rfl, ite2 (fun e => ?_) (fun e => ?_)⟩
    · refine ⟨_, rfl, p, _, 2, _, rfl, rfl, hP, atI_nat (j := 2) rfl, .inl ⟨_, rfl, _, rfl, _, _, rfl, rfl, hm, ?_⟩⟩
      refine ⟨_, rfl, p, _, 2, _, rfl, rfl, hP, atI_nat (j := 2) rfl, .inl ⟨_, rfl, _, rfl, _, _, rfl, rfl, wide_div hm hm2 (by decide) (by decide), _, rfl, p, _, 2, 2, rfl, rfl, hp.pen, rfl, ?_⟩⟩
      refine ⟨_, rfl, q _ n (g / many) _ (Int.emod_nonneg _ (Int.ne_of_gt hm)) (Int.emod_lt_of_pos _ hm) (by omega) Off.refl.upd ⟨upd_same, (upd_ne hp.apart).trans hp.cells, Int.ediv_nonneg hp.left (Int.le_of_lt hm)⟩⟩
    · refine ⟨_, rfl, p, _, 1, _, rfl, rfl, hP, atI_nat (j := 1) rfl, ?_⟩
      refine ⟨_, rfl, _, _, rfl, rfl, _, rfl, p, _, 1, 1, rfl, rfl, hp.pen, rfl, ?_⟩
      have hP1 : (upd H p (.lst [.ref l, .int (n + 1), .int g])) p = some (.lst [.ref l, .int (n + 1), .int g]) := upd_same
      have hL1 : (upd H p (.lst [.ref l, .int (n + 1), .int g])) l = some (.lst (ns.map V.int)) := (upd_ne hp.apart).trans hp.cells
      have hO1 : Off p H (upd H p (.lst [.ref l, .int (n + 1), .int g])) := Off.refl.upd
      refine ⟨_, rfl, _, _, rfl, rfl, .inl ⟨by decide, by decide⟩, _, _, rfl, rfl, ?_⟩
      refine ⟨fun σ' H2 => ∃ c : Int, σ' = [some (.ref p), some (.int many), none, some (.int n), some (.int c), none, none] ∧ H2 p = some (.lst [.ref l, .int (n + 1), .int g]) ∧ H2 l = some (.lst (ns.map V.int)) ∧ Off p H H2, ?_, ?_⟩
      · refine ⟨_, rfl, p, _, 0, _, rfl, rfl, SqL.of hP1, atI_nat (j := 0) rfl, Nat.zero_le _, fun z hz => ?_⟩
        have hP2 := (upd_ne (o := .lst []) (ne_of_none hP1 hz)).trans hP1
        have hL2 := (upd_ne (o := .lst []) (ne_of_none hL1 hz)).trans hL1
        refine ⟨.list (ns.map PyData.int), .list [], .lst (SqL.of hL2) (dp_ints ns), .lst (SqL.of upd_same) .nil, shaped_ints ns, by decide, _, rfl, ite2 (fun e1 => ?_) (fun e1 => ?_)⟩
        · rw [eqv_nil] at e1
          have hlen : 0 < ns.length := by
            cases ns with
            | nil => cases e1
            | cons a r => exact Nat.succ_pos _
          have hlt : n % ns.length < ns.length := Nat.mod_lt _ hlen
          refine ⟨_, rfl, p, _, 0, _, rfl, rfl, SqL.of hP2, atI_nat (j := 0) rfl, _, rfl, .inl ⟨_, rfl, _, rfl, p, _, 0, _, rfl, rfl, SqL.of hP2, atI_nat (j := 0) rfl, l, _, rfl, .inl (SqL.of hL2), _, _, rfl, rfl, (by rw [List.length_map]; omega), l, _, _, .int ns[n % ns.length], rfl, rfl, SqL.of hL2, ?_, ?_⟩⟩
          · have e2 : ((n : Int) % (((ns.map V.int).length : Nat) : Int)) = ((n % ns.length : Nat) : Int) := by
              rw [List.length_map]
              exact (Int.natCast_emod n ns.length).symm
            rw [e2]
            refine atI_nat ?_
            rw [List.getElem?_map, List.getElem?_eq_getElem hlt]
            rfl
          · exact ⟨_, rfl, hP2, hL2, hO1.new hz⟩
        · exact ⟨_, rfl, hP2, hL2, hO1.new hz⟩
      · rintro σ' H2 ⟨c, rfl, hP2, hL2, hO2⟩
        have hmix : ∀ t : Int, 0 ≤ t % many ∧ t % many < many := fun t => ⟨Int.emod_nonneg _ (Int.ne_of_gt hm), Int.emod_lt_of_pos _ hm⟩
        have bm : ∀ Y : Int, 0 ≤ Y % 2147483587 ∧ Y % 2147483587 < 2147483587 := fun Y => ⟨Int.emod_nonneg _ (by decide), Int.emod_lt_of_pos _ (by decide)⟩
        have bd : ∀ Y : Int, -(2 ^ 64) < Y % 2147483587 ∧ Y % 2147483587 < 2 ^ 64 := fun Y => by
          have := bm Y
          omega
        have key : ∀ Y : Int, ((Y % 2147483587) * (2 * (n : Int) + 67) + 53353 * (n : Int) * (n : Int) + 29).natAbs < 2 ^ 64 := by
          intro Y
          have b2 := bm Y
          revert b2
          generalize Y % 2147483587 = m1
          intro b2
          have b3 : 0 ≤ m1 * (2 * (n : Int) + 67) ∧ m1 * (2 * (n : Int) + 67) ≤ 2147483587 * 2000067 := ⟨Int.mul_nonneg b2.1 (by omega), Int.mul_le_mul (by omega) (by omega) (by omega) (by decide)⟩
          have b4 : 0 ≤ 53353 * (n : Int) * (n : Int) ∧ 53353 * (n : Int) * (n : Int) ≤ (53353 * 1000000) * 1000000 := ⟨Int.mul_nonneg (by omega) (by omega), Int.mul_le_mul (by omega) (by omega) (by omega) (by decide)⟩
          omega
        refine ⟨_, rfl, _, rfl, p, _, 0, _, rfl, rfl, SqL.of hP2, atI_nat (j := 0) rfl, l, _, rfl, .inl (SqL.of hL2), _, _, rfl, rfl, _, rfl, ite2 (fun e1 => ⟨_, rfl, _, rfl, _, _, rfl, rfl, ⟨by decide, by decide, by decide⟩, _, _, rfl, rfl, _, rfl, ite2 (fun e2 => ?great) (fun e2 => ?late)⟩) (fun e1 => ?small)⟩
        case great =>
          have e3 : (10 : Int) ^ (18 : Int).toNat ≤ (if c < 0 then -c else c) := of_decide_eq_true e2
          refine ⟨_, rfl, _, rfl, _, _, rfl, rfl, ⟨by decide, by decide, by decide⟩, _, _, rfl, rfl, _, _, rfl, rfl, .inl ⟨by decide, by decide⟩, _, rfl, _, _, rfl, rfl, .inr ⟨_, rfl, _, _, rfl, rfl, ?_⟩⟩
          have hG : ∀ k : Bool, 0 ≤ 2 * ((if c < 0 then -c else c) - (10 : Int) ^ (18 : Int).toNat) + (if k = true then (1 : Int) else 0) := by
            intro k
            have : (0 : Int) ≤ (if k = true then (1 : Int) else 0) := by cases k <;> decide
            omega
          have hG1 := hG (decide (c < 0))
          refine ⟨_, rfl, .inl ⟨_, rfl, _, rfl, _, _, rfl, rfl, wide_div hm hm2 (by decide) (by decide), _, rfl, p, _, 2, 2, rfl, rfl, hP2, rfl, ?_⟩⟩
          exact ⟨_, rfl, .inl ⟨_, rfl, _, rfl, _, _, rfl, rfl, hm, q _ (n + 1) _ _ (hmix _).1 (hmix _).2 (Nat.le_refl _) hO2.upd ⟨upd_same, (upd_ne (Pen.apart ⟨hP2, hL2, hp.left⟩)).trans hL2, Int.ediv_nonneg hG1 (Int.le_of_lt hm)⟩⟩⟩
        all_goals
          have b1 : 0 ≤ c % 2147483549 ∧ c % 2147483549 < 2147483549 := ⟨Int.emod_nonneg _ (by decide), Int.emod_lt_of_pos _ (by decide)⟩
          refine ⟨_, rfl, .inl ⟨_, rfl, _, _, rfl, rfl, (by decide : (0 : Int) < 2147483549), _, rfl, _, _, rfl, rfl, .inl ⟨by decide, by decide⟩, _, _, rfl, rfl, _, _, rfl, rfl, _, _, rfl, rfl, ⟨by decide, by decide, ?_⟩, .inl ⟨_, rfl, _, _, rfl, rfl, (by decide : (0 : Int) < 2147483587), ?_⟩⟩⟩
          · omega
          refine ⟨_, rfl, _, rfl, _, _, rfl, rfl, .inl ⟨by decide, by decide⟩, _, _, rfl, rfl, _, _, rfl, rfl, .inl (bd _), _, rfl, _, _, rfl, rfl, .inl ⟨by decide, by decide⟩, _, rfl, _, _, rfl, rfl, .inr ⟨?_, ?_⟩, _, _, rfl, rfl, _, _, rfl, rfl, _, _, rfl, rfl, ⟨by decide, by decide, key _⟩, .inl ⟨_, rfl, _, _, rfl, rfl, (by decide : (0 : Int) < 2147483629), ?_⟩⟩
          · omega
          · omega
          exact ⟨_, rfl, _, _, rfl, rfl, ⟨by decide, by decide⟩, .inl ⟨_, rfl, _, rfl, _, _, rfl, rfl, hm, q _ (n + 1) g H2 (hmix _).1 (hmix _).2 (Nat.le_refl _) hO2 ⟨hP2, hL2, hp.left⟩⟩⟩


/-- one of a list's things, one of a text's signs -/
def spPick (K : PySem.W.Frag) : Sp := fun vs H Q _ => ∃ (p l : Addr) (ns : List Int) (n : Nat) (g : Int) (y : V), vs = [.ref p, y] ∧ Pen H p l ns n g ∧ n < 1000000 ∧
  ((∃ (q : Addr) (xs : List V), y = .ref q ∧ q ≠ p ∧ H q = some (.lst xs) ∧ 0 < xs.length ∧ xs.length ≤ 1000 ∧
    ∀ (v : V) (n' : Nat) (g' : Int) (H' : Hp), v ∈ xs → n' ≤ n + 1 → Off p H H' → Pen H' p l ns n' g' → Q v H') ∨
   (∃ z : Str, y = .str z ∧ 0 < z.length ∧ z.length ≤ 1000 ∧
    ∀ (c : Nat) (n' : Nat) (g' : Int) (H' : Hp), c ∈ z.cps.toList → n' ≤ n + 1 → Off p H H' → Pen H' p l ns n' g' → Q (.str (⟨#[c]⟩)) H'))
theorem ok_pick {f fD : Addr} {fd fdD : FuncData} (F : Fun K "_law_pick" "_law_pick" sPick f fd) (ml : mg "len" = none) (FD : Fun K "_law_draw" "_law_draw" sDraw fD fdD) (bD : Binds K fdD ["_law_pen_here", "_law_many"] []) (gD : mg "_law_draw" = some (.ref fD))
    (GD : FnOk P w K mg base CX0 1 fD fdD ["_law_pen_here", "_law_many"] spDraw) : FnOk P w K mg base CX0 2 f fd ["_law_pen_here", "_law_some"] (spPick K) := by
  refine F.ok scPick (fun vs H Q E h => ?_) (fun cdv A outer s H vs Q E hr h => ?_)
  · obtain ⟨p, l, ns, n, g, y, rfl, _⟩ := h
    rfl
  · obtain ⟨p, l, ns, n, g, y, rfl, hp, hn, k⟩ := h
    refine ⟨_, pss_one (ps_ret (pe_ix (ix_list.or ix_str) (pv 1) (pe_call GD hr (by rfl) gD FD.kp bD .nil pass0 (pa_cons (pv 0) (pa_cons (pe_callB (So.CallR.or call_len_seq call_len_str) (by rfl) ml PySem.boot_len (pa_cons (pv 1) pa_nil)) pa_nil))) (fun _ _ => rfl))), ?_⟩
    rcases k with ⟨q, xs, rfl, hne, hq, h0, h1, k⟩ | ⟨z, rfl, h0, h1, k⟩
    · refine ⟨_, rfl, _, rfl, _, rfl, .inl ⟨q, _, rfl, .inl (SqL.of hq), p, l, ns, n, g, _, rfl, hp, hn, by omega, ?_, ?_⟩⟩
      · have : ((xs.length : Nat) : Int).natAbs = xs.length := Int.natAbs_natCast _
        rw [this]
        exact Nat.lt_of_le_of_lt h1 (by decide)
      · intro d n' g' H' d0 d1 hn' off pen
        obtain ⟨j, rfl⟩ : ∃ j : Nat, d = j := ⟨d.toNat, by omega⟩
        have hlt : j < xs.length := by omega
        exact .inl ⟨q, xs, j, xs[j], rfl, rfl, SqL.of (off q _ hne hq), atI_nat (List.getElem?_eq_getElem hlt), k _ n' g' H' (List.getElem_mem hlt) hn' off pen⟩
    · refine ⟨_, rfl, _, rfl, _, rfl, .inr ⟨z, rfl, Nat.le_trans h1 (by decide), p, l, ns, n, g, _, rfl, hp, hn, by omega, ?_, ?_⟩⟩
      · have : ((z.length : Nat) : Int).natAbs = z.length := Int.natAbs_natCast _
        rw [this]
        exact Nat.lt_of_le_of_lt h1 (by decide)
      · intro d n' g' H' d0 d1 hn' off pen
        obtain ⟨j, rfl⟩ : ∃ j : Nat, d = j := ⟨d.toNat, by omega⟩
        have hz : z.length = z.cps.toList.length := Array.length_toList.symm
        have hlt : j < z.cps.toList.length := by omega
        exact .inr ⟨z, j, z.cps.toList[j], rfl, rfl, Nat.le_trans h1 (by decide), atI_nat (List.getElem?_eq_getElem hlt), k _ n' g' H' (List.getElem_mem hlt) hn' off pen⟩
theorem Pen.new {H : Hp} {p l q : Addr} {ns : List Int} {n : Nat} {g : Int} {o : HO} (h : Pen H p l ns n g) (hq : H q = none) : Pen (upd H q o) p l ns n g :=
  ⟨(upd_ne (ne_of_none h.pen hq)).trans h.pen, (upd_ne (ne_of_none h.cells hq)).trans h.cells, h.left⟩
end
end K13

namespace K13
open PySem PySem.Spec PyProof.Rows L2 So
abbrev sWhole : Stmt := topS 16
abbrev sMoment : Stmt := topS 17
abbrev sName : Stmt := topS 18
abbrev sCheck : Stmt := topS 19
abbrev sWordOf : Stmt := topS 26
theorem scWhole : FnScope ["value"] ["value"] (defScope sWhole) := ⟨rfl, rfl, rfl, by decide +kernel, rfl, by decide +kernel, by decide +kernel⟩
theorem scMoment : FnScope ["value"] ["value"] (defScope sMoment) := ⟨rfl, rfl, rfl, by decide +kernel, rfl, by decide +kernel, by decide +kernel⟩
theorem scName : FnScope ["value", "sign"] ["value"] (defScope sName) := ⟨rfl, rfl, rfl, by decide +kernel, rfl, by decide +kernel, by decide +kernel⟩
theorem scCheck : FnScope ["value", "form"] ["value", "form"] (defScope sCheck) := ⟨rfl, rfl, rfl, by decide +kernel, rfl, by decide +kernel, by decide +kernel⟩
theorem scWordOf : FnScope ["value"] ["value"] (defScope sWordOf) := ⟨rfl, rfl, rfl, by decide +kernel, rfl, by decide +kernel, by decide +kernel⟩
/-! ### what a name is -/
def letters : Str := "abcdefghijklmnopqrstuvwxyz"
def digits : Str := "0123456789"
def noNames : List Str := ["begun", "setby", "found", "trusted", "passed", "failed", "agreed", "differed", "served", "backed", "sound", "unsound", "sure", "never", "open", "none", "record", "lot", "menu", "wanted"]
def isAln (c : Nat) : Bool := decide (c ∈ (letters ++ digits).cps.toList)
def isName (z : Str) : Bool := decide (1 ≤ z.length) && decide (z.length ≤ 8) && !(noNames.contains z) && decide (z.cps.toList.headD 0 ∈ letters.cps.toList) && z.cps.toList.all isAln
/-- the module's names that the words of the package read -/
structure Words (K : PySem.W.Frag) (mg : Str → Option Value) : Prop where
  greatest : ∃ t, mg "GREATEST" = some (.int 1000000000000000000000000000000 t)
  longest : ∃ t, mg "LONGEST_NAME" = some (.int 8 t)
  letters : ∃ t, mg "LETTERS" = some (.str letters t)
  digits : ∃ t, mg "DIGITS" = some (.str digits t)
  noNames : ∃ a, mg "NO_NAMES" = some (.ref a) ∧ ∀ H : Hp, SqT K H a (noNames.map V.str)
  isi : mg "isinstance" = none
  int : mg "int" = none
  bool : mg "bool" = none
  str : mg "str" = none
  len : mg "len" = none
  all : mg "all" = none
section
variable {P : Program} {w : World} {K : PySem.W.Frag} {mg : Str → Option Value} {base : Heap}
theorem kit_int_int : PySem.W.kitOne K (.type "int") (.type "int") = some true := kit_ty (by decide +kernel)
theorem kit_int_bool : PySem.W.kitOne K (.type "int") (.type "bool") = some false := kit_ty (by decide +kernel)
theorem kit_str_str : PySem.W.kitOne K (.type "str") (.type "str") = some true := kit_ty (by decide +kernel)
theorem kit_bool_bool : PySem.W.kitOne K (.type "bool") (.type "bool") = some true := kit_ty (by decide +kernel)

/-- the values that the law draws: what each is, by its type's name -/
inductive Gv (H : Hp) : V → String → Prop where
  | non : Gv H .non "NoneType"
  | bl (b : Bool) : Gv H (.bl b) "bool"
  | int (i : Int) : Gv H (.int i) "int"
  | str (z : Str) (h : z.length ≤ 2000) : Gv H (.str z) "str"
  | lst {a : Addr} {xs : List V} (e : H a = some (.lst xs)) : Gv H (.ref a) "list"
  | tup {a : Addr} {xs : List V} (e : H a = some (.tup xs)) : Gv H (.ref a) "tuple"
  | dK {a : Addr} {kvs : List (Key × V)} (e : H a = some (.dK kvs)) : Gv H (.ref a) "dict"
theorem Gv.ty {H : Hp} {v : V} {T : String} (h : Gv H v T) : TyX K H v (.type T) := by
  cases h with
  | non => exact .base .non
  | bl b => exact .base (.bl b)
  | int i => exact .base (.int i)
  | str z h => exact .base (.str z)
  | lst e => exact .base (.lst e)
  | tup e => exact .base (.tup e)
  | dK e => exact .base (.dK e)
theorem Gv.same {H H' : Hp} {v : V} {T : String} (h : Gv H v T) (s : Same H H') : Gv H' v T := by
  cases h with
  | non => exact .non
  | bl b => exact .bl b
  | int i => exact .int i
  | str z h => exact .str z h
  | lst e => exact .lst (s _ _ e)
  | tup e => exact .tup (s _ _ e)
  | dK e => exact .dK (s _ _ e)
theorem Gv.off {H H' : Hp} {v : V} {T : String} {p : Addr} (h : Gv H v T) (n : v ≠ .ref p) (s : Off p H H') : Gv H' v T := by
  cases h with
  | non => exact .non
  | bl b => exact .bl b
  | int i => exact .int i
  | str z h => exact .str z h
  | lst e => exact .lst (s _ _ (fun z => n (by rw [z])) e)
  | tup e => exact .tup (s _ _ (fun z => n (by rw [z])) e)
  | dK e => exact .dK (s _ _ (fun z => n (by rw [z])) e)
def gInt : V → Bool
  | .int _ => true
  | _ => false
def gMom : V → Bool
  | .int i => decide (0 ≤ i ∧ i ≤ 1000000000000000000000000000000)
  | _ => false
def gNam : V → Bool
  | .str z => isName z
  | _ => false
def gTru : V → Bool
  | .bl _ => true
  | _ => false
/-- what isinstance says of such a value and a built-in type -/
theorem Gv.kit {H : Hp} {v : V} {T : String} (h : Gv H v T) (c : String) (hc : c = "int" ∨ c = "bool" ∨ c = "str") : PySem.W.kitOne K (.type T) (.type c) = some (decide (T = c ∨ (T = "bool" ∧ c = "int"))) := by
  rcases hc with rfl | rfl | rfl <;> cases h <;> exact kit_ty (by decide +kernel)
/-- is_whole -/
def spWhole : Sp := fun vs H Q _ => ∃ (v : V) (T : String), vs = [v] ∧ Gv H v T ∧ Q (.bl (gInt v)) H
theorem ok_whole {f : Addr} {fd : FuncData} (F : Fun K "is_whole" "is_whole" sWhole f fd) (W : Words K mg) : FnOk P w K mg base CX0 1 f fd ["value"] spWhole := by
  refine F.ok scWhole (fun vs H Q E h => ?_) (fun cdv A outer s H vs Q E hr h => ?_)
  · obtain ⟨v, T, rfl, _⟩ := h
    rfl
  · obtain ⟨v, T, rfl, hv, q⟩ := h
    refine ⟨_, pss_one (ps_ret (pe_and (pe_callB call_isi (by rfl) W.isi (by decide +kernel) (pa_cons (pv 0) (pa_cons (pe_bltn (v := .ty "int") (by rfl) W.int (by decide +kernel) rfl) pa_nil)))
      (pe_one (pe_not (pe_callB call_isi (by rfl) W.isi (by decide +kernel) (pa_cons (pv 0) (pa_cons (pe_bltn (v := .ty "bool") (by rfl) W.bool (by decide +kernel) rfl) pa_nil))))))), ?_⟩
    refine ⟨_, rfl, _, _, _, _, _, rfl, .ty "int", hv.ty, hv.kit "int" (.inl rfl), _, rfl, ?_⟩
    cases hv with
    | int i =>
      refine iteT ?_
      exact ⟨_, rfl, _, _, _, _, false, rfl, .ty "bool", .base (.int i), kit_int_bool, _, rfl, q⟩
    | bl b =>
      refine iteT ?_
      exact ⟨_, rfl, _, _, _, _, true, rfl, .ty "bool", .base (.bl b), kit_bool_bool, _, rfl, q⟩
    | non => exact iteF q
    | str z h => exact iteF q
    | lst e => exact iteF q
    | tup e => exact iteF q
    | dK e => exact iteF q
/-- is_moment -/
def spMoment : Sp := fun vs H Q _ => ∃ (v : V) (T : String), vs = [v] ∧ Gv H v T ∧ Q (.bl (gMom v)) H
theorem ok_moment {f fW : Addr} {fd fdW : FuncData} (F : Fun K "is_moment" "is_moment" sMoment f fd) (W : Words K mg) (FW : Fun K "is_whole" "is_whole" sWhole fW fdW) (bW : Binds K fdW ["value"] []) (gW : mg "is_whole" = some (.ref fW)) :
    FnOk P w K mg base CX0 2 f fd ["value"] spMoment := by
  have GW : FnOk P w K mg base CX0 1 fW fdW ["value"] spWhole := ok_whole FW W
  refine F.ok scMoment (fun vs H Q E h => ?_) (fun cdv A outer s H vs Q E hr h => ?_)
  · obtain ⟨v, T, rfl, _⟩ := h
    rfl
  · obtain ⟨v, T, rfl, hv, q⟩ := h
    obtain ⟨tG, hG⟩ := W.greatest
    refine ⟨_, pss_one (ps_ret (pe_and (pe_call GW hr (by rfl) gW FW.kp bW .nil pass0 (pa_cons (pv 0) pa_nil)) (pe_one (pe_chain op_le op_le pe_int (pv 0) (pe_glob (v := .int 1000000000000000000000000000000) rfl hG ⟨_, rfl⟩))))), ?_⟩
    refine ⟨_, rfl, v, T, rfl, hv, gInt v, rfl, ?_⟩
    cases hv with
    | int i =>
      refine iteT ?_
      refine ⟨_, rfl, _, _, rfl, rfl, _, rfl, ite2 (fun e => ?_) (fun e => ?_)⟩
      · have e' : 0 ≤ i := of_decide_eq_true e
        refine ⟨_, _, rfl, rfl, ?_⟩
        have : gMom (.int i) = decide (i ≤ 1000000000000000000000000000000) := by simp [gMom, e']
        rw [this] at q
        exact q
      · have e' : ¬ 0 ≤ i := fun z => e (decide_eq_true z)
        have : gMom (.int i) = false := by simp [gMom, e']
        rw [this] at q
        exact q
    | bl b => exact iteF q
    | non => exact iteF q
    | str z h => exact iteF q
    | lst e => exact iteF q
    | tup e => exact iteF q
    | dK e => exact iteF q

theorem inV_strs (z : Str) : ∀ l : List Str, inV (.str z) (l.map V.str) = l.contains z
  | [] => rfl
  | x :: r => by
    have h := inV_strs z r
    have e : eqV (.str x) (.str z) = (z == x) := Bool.beq_comm (a := x) (b := z)
    show (eqV (.str x) (.str z) || inV (.str z) (r.map V.str)) = _
    rw [h, e, List.contains_cons]
theorem flat_strs (l : List Str) : (l.map V.str).all flatV = true := by
  rw [List.all_map]
  exact List.all_eq_true.mpr fun _ _ => rfl
theorem Same.over {H H1 : Hp} {D : Addr} {o : HO} (s : Same H H1) (h : H D = none) : Same H (upd H1 D o) := fun b u e => by
  rw [upd_ne (ne_of_none e h)]
  exact s b u e
/-- is_name -/
def spName : Sp := fun vs H Q _ => ∃ (v : V) (T : String), vs = [v] ∧ Gv H v T ∧ ∀ H', Same H H' → Q (.bl (gNam v)) H'
theorem ok_name {f : Addr} {fd : FuncData} (F : Fun K "is_name" "is_name" sName f fd) (W : Words K mg) : FnOk P w K mg base CX0 1 f fd ["value"] spName := by
  refine F.ok scName (fun vs H Q E h => ?_) (fun cdv A outer s H vs Q E hr h => ?_)
  · obtain ⟨v, T, rfl, _⟩ := h
    rfl
  · obtain ⟨v, T, rfl, hv, q⟩ := h
    obtain ⟨tL, hL⟩ := W.longest
    obtain ⟨tA, hA⟩ := W.letters
    obtain ⟨tD, hD⟩ := W.digits
    obtain ⟨aN, gN, hN⟩ := W.noNames
    have gA : ∀ {X : Cx}, X.mg = mg → True := fun _ => trivial
    refine ⟨_, pss_cons (ps_if (PW.pt (pw_or (pt_not (pt_val (pe_callB call_isi (by rfl) W.isi (by decide +kernel) (pa_cons (pv 0) (pa_cons (pe_bltn (v := .ty "str") (by rfl) W.str (by decide +kernel) rfl) pa_nil)))))
        (pw_or (pt_not (pt_chain op_le op_le pe_int (pe_callB call_len_str (by rfl) W.len PySem.boot_len (pa_cons (pv 0) pa_nil)) (pe_glob (v := .int 8) rfl hL ⟨_, rfl⟩)))
          (pw_or1 (pt_cmpR op_in_seq (pv 0) (pe_glob (v := .ref aN) rfl gN rfl) (by rfl))))))
        (pss_one (ps_ret pe_bl)) pss_nil)
      (pss_one (ps_ret (pe_and (pe_cmpR op_in_sign (pe_ix ix_str (pv 0) pe_int (fun _ _ => rfl)) (pe_glob (v := .str letters) rfl hA ⟨_, rfl⟩) (by rfl))
        (pe_one (pe_callB (cr_all rfl) (by rfl) W.all (by decide +kernel) (pa_cons (pe_lc (own := [("sign", 1)]) (g := gName 1) (tt := tYes) rfl scName.nd (pi_str (pv 0)) (blkOk_by (N := ["value", "sign"]) (sc := defScope sName) (by decide +kernel))
          (fun _ _ _ _ _ => pg_name (i := 1) scName.nd rfl (Or.inl rfl)) (fun _ _ _ _ _ => pts_nil)
          (fun _ _ _ _ _ => pe_cmpR op_in_sign (pv 1) (pe_op op_add_str (pe_glob (v := .str letters) rfl hA ⟨_, rfl⟩) (pe_glob (v := .str digits) rfl hD ⟨_, rfl⟩)) (by rfl))) pa_nil)))))), ?_⟩
    refine ⟨_, rfl, _, _, _, _, _, rfl, .ty "str", hv.ty, hv.kit "str" (.inr (.inr rfl)), _, rfl, ?_⟩
    cases hv with
    | non => exact iteT (q H (Same.refl H))
    | bl b => exact iteT (q H (Same.refl H))
    | int i => exact iteT (q H (Same.refl H))
    | lst e => exact iteT (q H (Same.refl H))
    | tup e => exact iteT (q H (Same.refl H))
    | dK e => exact iteT (q H (Same.refl H))
    | str z hz => ?_
    have q : ∀ H', Same H H' → Q (.bl (isName z)) H' := q
    have hzl : z.length ≤ sizeLine := Nat.le_trans hz (by decide)
    refine iteF ?_
    have no : isName z = false → Q (.bl false) H := fun e => by
      have := q H (Same.refl H)
      rw [e] at this
      exact this
    refine ⟨_, rfl, _, rfl, hzl, _, _, rfl, rfl, _, rfl, ite2 (fun c1 => ?_) (fun c1 => ⟨_, rfl, iteT (no ?_)⟩)⟩
    case refine_2 =>
      have c1' : ¬ (1 : Int) ≤ ((z.length : Nat) : Int) := fun e => c1 (decide_eq_true e)
      unfold isName
      rw [show decide (1 ≤ z.length) = false from decide_eq_false (by omega)]
      rfl
    have c1' : (1 : Int) ≤ ((z.length : Nat) : Int) := of_decide_eq_true c1
    refine ⟨_, _, rfl, rfl, _, rfl, ?_⟩
    by_cases c2 : ((z.length : Nat) : Int) ≤ 8
    case neg =>
      rw [decide_eq_false c2]
      refine iteT (no ?_)
      unfold isName
      rw [show decide (z.length ≤ 8) = false from decide_eq_false (by omega), Bool.and_false]
      rfl
    rw [decide_eq_true c2]
    refine iteF ⟨_, rfl, aN, _, rfl, .inr (hN H), rfl, flat_strs _, ?_⟩
    refine ⟨_, rfl, ?_⟩
    rw [show inV (.str z) (noNames.map V.str) = noNames.contains z from inV_strs z noNames]
    cases c3 : noNames.contains z with
    | true =>
      refine iteT (no ?_)
      unfold isName
      rw [c3, Bool.not_true, Bool.and_false]
      rfl
    | false =>
      refine iteF ?_
      have hz0 : 0 < z.cps.toList.length := by
        have : z.length = z.cps.toList.length := Array.length_toList.symm
        omega
      obtain ⟨c0, cr, hc⟩ : ∃ c0 cr, z.cps.toList = c0 :: cr := by
        cases e : z.cps.toList with
        | nil => rw [e] at hz0; cases hz0
        | cons a r => exact ⟨a, r, rfl⟩
      have e1 : decide (1 ≤ z.length) = true := decide_eq_true (by omega)
      have e2 : decide (z.length ≤ 8) = true := decide_eq_true (by omega)
      have e3 : isName z = (decide (c0 ∈ letters.cps.toList) && z.cps.toList.all isAln) := by
        unfold isName
        rw [e1, e2, c3, hc]
        rfl
      refine ⟨_, rfl, _, _, c0, rfl, rfl, hzl, ?_, _, _, rfl, rfl, _, rfl, ite2 (fun c4 => ?_) (fun c4 => ?_)⟩
      · rw [hc]
        exact atI_nat (j := 0) rfl
      · refine ⟨_, rfl, _, rfl, fun D hD => lc_it walk_str (fun i H' => H' D = some (.lst ((z.cps.toList.take i).map fun c => V.bl (isAln c))) ∧ Same H H') ⟨?_, ?_⟩ (fun _ _ _ _ => trivial) ?_ ?_⟩
        · exact upd_same
        · exact Same.over (Same.refl H) hD
        · rintro i x H1 H2 hi ⟨h1, s1⟩ ⟨rfl, c, hc1, rfl⟩
          have hc2 : z.cps.toList[i]? = some c := by
            rw [Array.getElem?_toList]
            exact hc1
          refine ⟨rfl, _, rfl, _, _, rfl, rfl, by decide, c, _, rfl, rfl, _, h1, ?_, ?_, Same.over s1 hD⟩
          · rw [List.length_map, List.length_take]
            have : z.cps.toList.length = z.length := Array.length_toList
            exact Nat.lt_of_le_of_lt (Nat.le_trans (Nat.min_le_right _ _) (by omega)) (by decide : 2000 < sizeLine)
          · rw [upd_same, List.take_add_one, hc2, List.map_append]
            rfl
        · rintro H1 ⟨h1, s1⟩
          refine ⟨D, z.cps.toList.map isAln, rfl, SqL.of ?_, ?_⟩
          · rw [h1, List.take_of_length_le (by rw [Array.length_toList]; exact Nat.le_refl _), List.map_map]
            rfl
          · have := q H1 s1
            rw [e3, show decide (c0 ∈ letters.cps.toList) = true from c4, Bool.true_and] at this
            rw [List.all_map]
            exact this
      · refine no ?_
        rw [e3]
        have : decide (c0 ∈ letters.cps.toList) = false := by
          cases h : decide (c0 ∈ letters.cps.toList) with
          | true => exact absurd h c4
          | false => rfl
        rw [this]
        rfl
end
end K13

namespace K13
open PySem PySem.Spec PyProof.Rows L2 So
abbrev sEN : Stmt := inClass (topS 3) 0
abbrev sEM : Stmt := inClass (topS 4) 0
abbrev sES : Stmt := inClass (topS 5) 0
theorem scEN : FnScope ["self", "name"] ["self", "name"] (defScope sEN) := ⟨rfl, rfl, rfl, by decide +kernel, rfl, by decide +kernel, by decide +kernel⟩
theorem scEM : FnScope ["self", "moment"] ["self", "moment"] (defScope sEM) := ⟨rfl, rfl, rfl, by decide +kernel, rfl, by decide +kernel, by decide +kernel⟩
theorem scES : FnScope ["self", "value"] ["self", "value"] (defScope sES) := ⟨rfl, rfl, rfl, by decide +kernel, rfl, by decide +kernel, by decide +kernel⟩
section
variable {P : Program} {w : World} {K : PySem.W.Frag} {mg : Str → Option Value} {base : Heap}
theorem ok_eN {C f : Addr} {fd : FuncData} (F : Fun K "__init__" "BadName.__init__" sEN f fd) (O : OneE K mg "BadName" "name" C f fd) : FnOk P w K mg base CX0 1 f fd ["self", "name"] (spOneE C "name") := by
  refine F.ok scEN (fun vs H Q E h => ?_) (fun cdv A outer s H vs Q E hr h => ?_)
  · obtain ⟨a, v, rfl, _⟩ := h
    rfl
  · obtain ⟨a, v, rfl, ha, q⟩ := h
    exact ⟨_, pss_one (ps_ost (pv 0) (pv 1)), _, rfl, _, rfl, a, C, rfl, O.T, O.no, .inl ⟨ha, fun dx h n => q dx h n⟩⟩
theorem ok_eM {C f : Addr} {fd : FuncData} (F : Fun K "__init__" "BadMoment.__init__" sEM f fd) (O : OneE K mg "BadMoment" "moment" C f fd) : FnOk P w K mg base CX0 1 f fd ["self", "moment"] (spOneE C "moment") := by
  refine F.ok scEM (fun vs H Q E h => ?_) (fun cdv A outer s H vs Q E hr h => ?_)
  · obtain ⟨a, v, rfl, _⟩ := h
    rfl
  · obtain ⟨a, v, rfl, ha, q⟩ := h
    exact ⟨_, pss_one (ps_ost (pv 0) (pv 1)), _, rfl, _, rfl, a, C, rfl, O.T, O.no, .inl ⟨ha, fun dx h n => q dx h n⟩⟩
theorem ok_eS {C f : Addr} {fd : FuncData} (F : Fun K "__init__" "BadSaying.__init__" sES f fd) (O : OneE K mg "BadSaying" "value" C f fd) : FnOk P w K mg base CX0 1 f fd ["self", "value"] (spOneE C "value") := by
  refine F.ok scES (fun vs H Q E h => ?_) (fun cdv A outer s H vs Q E hr h => ?_)
  · obtain ⟨a, v, rfl, _⟩ := h
    rfl
  · obtain ⟨a, v, rfl, ha, q⟩ := h
    exact ⟨_, pss_one (ps_ost (pv 0) (pv 1)), _, rfl, _, rfl, a, C, rfl, O.T, O.no, .inl ⟨ha, fun dx h n => q dx h n⟩⟩
/-- the three errors of arguments -/
structure Errs (K : PySem.W.Frag) (mg : Str → Option Value) (CN CM CS : Addr) : Prop where
  n : ∃ (f : Addr) (fd : FuncData), OneE K mg "BadName" "name" CN f fd ∧ Fun K "__init__" "BadName.__init__" sEN f fd
  m : ∃ (f : Addr) (fd : FuncData), OneE K mg "BadMoment" "moment" CM f fd ∧ Fun K "__init__" "BadMoment.__init__" sEM f fd
  s : ∃ (f : Addr) (fd : FuncData), OneE K mg "BadSaying" "value" CS f fd ∧ Fun K "__init__" "BadSaying.__init__" sES f fd
def gBeg : V → Bool
  | .int i => decide (1 ≤ i ∧ i ≤ 1000000000000000000000000000000)
  | _ => false
/-- the forms: whether a value has it, the class and the field of the error where not -/
def Form (CN CM CS : Addr) (form : Str) (v : V) (ok : Bool) (C : Addr) (fl : Str) : Prop :=
  (form = "name" ∧ ok = gNam v ∧ C = CN ∧ fl = "name") ∨ (form = "moment" ∧ ok = gMom v ∧ C = CM ∧ fl = "moment") ∨ (form = "beginning" ∧ ok = gBeg v ∧ C = CM ∧ fl = "moment") ∨ (form = "truth" ∧ ok = gTru v ∧ C = CS ∧ fl = "value")
theorem notS {a b : Str} (h : a ≠ b) : ¬ (decide (V.str a = V.str b) = true) := fun e => h (V.str.inj (of_decide_eq_true e))
def spCheck (CN CM CS : Addr) : Sp := fun vs H Q E => ∃ (v : V) (T : String) (form : Str) (ok : Bool) (C : Addr) (fl : Str), vs = [v, .str form] ∧ Gv H v T ∧ Form CN CM CS form v ok C fl ∧
  (ok = true → ∀ H', Same H H' → Q .non H') ∧ (ok = false → ∀ d H', Same H H' → H' d = some (.xd [(fl, v)]) → E (.ref C) (some d) H')
theorem ok_check {CN CM CS f fM fN : Addr} {fd fdM fdN : FuncData} (F : Fun K "check_form" "check_form" sCheck f fd) (W : Words K mg) (R : Errs K mg CN CM CS) (FM : Fun K "is_moment" "is_moment" sMoment fM fdM) (bM : Binds K fdM ["value"] []) (gM : mg "is_moment" = some (.ref fM))
    (GM : FnOk P w K mg base CX0 2 fM fdM ["value"] spMoment) (FN : Fun K "is_name" "is_name" sName fN fdN) (bN : Binds K fdN ["value"] []) (gN : mg "is_name" = some (.ref fN)) (GN : FnOk P w K mg base CX0 1 fN fdN ["value"] spName) :
    FnOk P w K mg base (L2.CX P w) 3 f fd ["value", "form"] (spCheck CN CM CS) := by
  obtain ⟨f1, fd1, O1, F1⟩ := R.n
  obtain ⟨f2, fd2, O2, F2⟩ := R.m
  obtain ⟨f3, fd3, O3, F3⟩ := R.s
  have G1 : FnOk P w K mg base CX0 1 f1 fd1 ["self", "name"] (spOneE CN "name") := ok_eN F1 O1
  have G2 : FnOk P w K mg base CX0 1 f2 fd2 ["self", "moment"] (spOneE CM "moment") := ok_eM F2 O2
  have G3 : FnOk P w K mg base CX0 1 f3 fd3 ["self", "value"] (spOneE CS "value") := ok_eS F3 O3
  refine F.okX scCheck (fun vs H Q E h => ?_) (fun cdv A outer s H vs Q E hr h => ?_)
  · obtain ⟨v, T, form, ok, C, fl, rfl, _⟩ := h
    rfl
  · obtain ⟨v, T, form, ok, C, fl, rfl, hv, hf, qy, qn⟩ := h
    have hr1 : Room 1 _ := hr.mono (by decide)
    refine ⟨_, pss_cons (ps_if (PW.pt (pw_and (pt_cmpR op_eq (pv 1) pe_str (nomark _)) (pw_and1 (pt_not (pt_val (pe_call GN hr1 (by rfl) gN FN.kp bN .nil pass0 (pa_cons (pv 0) pa_nil))))))) (pss_one (ps_raiseOne O1 G1 rfl hr (takes_of rfl rfl rfl rfl) (by rfl) (pa_cons (pv 0) pa_nil))) pss_nil)
      (pss_cons (ps_if (PW.pt (pw_and (pt_cmpR op_eq (pv 1) pe_str (nomark _)) (pw_and1 (pt_not (pt_val (pe_call GM hr (by rfl) gM FM.kp bM .nil pass0 (pa_cons (pv 0) pa_nil))))))) (pss_one (ps_raiseOne O2 G2 rfl hr (takes_of rfl rfl rfl rfl) (by rfl) (pa_cons (pv 0) pa_nil))) pss_nil)
      (pss_cons (ps_if (PW.pt (pw_and (pt_cmpR op_eq (pv 1) pe_str (nomark _)) (pw_and1 (pt_not (PW.pt (pw_and (pt_val (pe_call GM hr (by rfl) gM FM.kp bM .nil pass0 (pa_cons (pv 0) pa_nil))) (pw_and1 (pt_cmpR op_gt (pv 0) pe_int (nomark _))))))))) (pss_one (ps_raiseOne O2 G2 rfl hr (takes_of rfl rfl rfl rfl) (by rfl) (pa_cons (pv 0) pa_nil))) pss_nil)
      (pss_one (ps_if (PW.pt (pw_and (pt_cmpR op_eq (pv 1) pe_str (nomark _)) (pw_and1 (pt_not (pt_val (pe_callB call_isi (by rfl) W.isi (by decide +kernel) (pa_cons (pv 0) (pa_cons (pe_bltn (v := .ty "bool") (by rfl) W.bool (by decide +kernel) rfl) pa_nil))))))))
        (pss_one (ps_raiseOne O3 G3 rfl hr (takes_of rfl rfl rfl rfl) (by rfl) (pa_cons (pv 0) pa_nil))) pss_nil)))), ?_⟩
    rcases hf with ⟨rfl, rfl, rfl, rfl⟩ | ⟨rfl, rfl, rfl, rfl⟩ | ⟨rfl, rfl, rfl, rfl⟩ | ⟨rfl, rfl, rfl, rfl⟩
    · refine ⟨_, rfl, rfl, _, rfl, ite2 (fun _ => ?_) (fun e => absurd (decide_eq_true rfl) e)⟩
      refine ⟨_, rfl, v, T, rfl, hv, fun H1 s1 => ⟨_, rfl, ?_⟩⟩
      cases hg : gNam v with
      | true =>
        refine iteF ?_
        refine ⟨_, rfl, rfl, _, rfl, ite2 (fun e => absurd e (notS (by decide +kernel))) (fun _ => ?_)⟩
        refine ⟨_, rfl, rfl, _, rfl, ite2 (fun e => absurd e (notS (by decide +kernel))) (fun _ => ?_)⟩
        refine ⟨_, rfl, rfl, _, rfl, ite2 (fun e => absurd e (notS (by decide +kernel))) (fun _ => ?_)⟩
        exact qy hg H1 s1
      | false =>
        refine iteT ?_
        exact ⟨_, rfl, mkOne rfl fun d H' s2 _ e => qn hg d H' (s1.trans s2) e⟩
    · refine ⟨_, rfl, rfl, _, rfl, ite2 (fun e => absurd e (notS (by decide +kernel))) (fun _ => ?_)⟩
      refine ⟨_, rfl, rfl, _, rfl, ite2 (fun _ => ?_) (fun e => absurd (decide_eq_true rfl) e)⟩
      refine ⟨_, rfl, v, T, rfl, hv, _, rfl, ?_⟩
      cases hg : gMom v with
      | true =>
        refine iteF ?_
        refine ⟨_, rfl, rfl, _, rfl, ite2 (fun e => absurd e (notS (by decide +kernel))) (fun _ => ?_)⟩
        refine ⟨_, rfl, rfl, _, rfl, ite2 (fun e => absurd e (notS (by decide +kernel))) (fun _ => ?_)⟩
        exact qy hg H (Same.refl H)
      | false =>
        refine iteT ?_
        exact ⟨_, rfl, mkOne rfl fun d H' s2 _ e => qn hg d H' s2 e⟩
    · refine ⟨_, rfl, rfl, _, rfl, ite2 (fun e => absurd e (notS (by decide +kernel))) (fun _ => ?_)⟩
      refine ⟨_, rfl, rfl, _, rfl, ite2 (fun e => absurd e (notS (by decide +kernel))) (fun _ => ?_)⟩
      refine ⟨_, rfl, rfl, _, rfl, ite2 (fun _ => ?_) (fun e => absurd (decide_eq_true rfl) e)⟩
      refine ⟨_, rfl, v, T, rfl, hv, _, rfl, ?_⟩
      have no : gBeg v = false → tMkO C (spOneE C "moment") [] (tCons (tVar 0) tNil) [some v, some (.str "beginning")] H fun cls d H' => E cls d H' := fun e =>
        ⟨_, rfl, mkOne rfl fun d H' s2 _ e2 => qn e d H' s2 e2⟩
      cases hg : gMom v with
      | true =>
        refine iteT ?_
        obtain ⟨i, rfl⟩ : ∃ i, v = .int i := by
          cases v with
          | int i => exact ⟨i, rfl⟩
          | _ => cases hg
        have hi : 0 ≤ i ∧ i ≤ 1000000000000000000000000000000 := of_decide_eq_true hg
        refine ⟨_, rfl, _, _, rfl, rfl, _, rfl, ?_⟩
        by_cases z : 0 < i
        · rw [show decide (i > 0) = true from decide_eq_true z]
          refine iteF ?_
          refine ⟨_, rfl, rfl, _, rfl, ite2 (fun e => absurd e (notS (by decide +kernel))) (fun _ => ?_)⟩
          exact qy (decide_eq_true ⟨by omega, hi.2⟩) H (Same.refl H)
        · rw [show decide (i > 0) = false from decide_eq_false z]
          refine iteT ?_
          exact no (decide_eq_false (by omega))
      | false =>
        refine iteF (iteT (no ?_))
        cases v with
        | int i =>
          have : ¬ (0 ≤ i ∧ i ≤ 1000000000000000000000000000000) := of_decide_eq_false hg
          exact decide_eq_false (by omega)
        | _ => rfl
    · refine ⟨_, rfl, rfl, _, rfl, ite2 (fun e => absurd e (notS (by decide +kernel))) (fun _ => ?_)⟩
      refine ⟨_, rfl, rfl, _, rfl, ite2 (fun e => absurd e (notS (by decide +kernel))) (fun _ => ?_)⟩
      refine ⟨_, rfl, rfl, _, rfl, ite2 (fun e => absurd e (notS (by decide +kernel))) (fun _ => ?_)⟩
      refine ⟨_, rfl, rfl, _, rfl, ite2 (fun _ => ?_) (fun e => absurd (decide_eq_true rfl) e)⟩
      refine ⟨_, rfl, _, _, _, _, _, rfl, .ty "bool", hv.ty, hv.kit "bool" (.inr (.inl rfl)), _, rfl, ?_⟩
      have no : gTru v = false → tMkO C (spOneE C "value") [] (tCons (tVar 0) tNil) [some v, some (.str "truth")] H fun cls d H' => E cls d H' := fun e =>
        ⟨_, rfl, mkOne rfl fun d H' s2 _ e2 => qn e d H' s2 e2⟩
      cases hv with
      | bl b => exact iteF (qy rfl H (Same.refl H))
      | non => exact iteT (no rfl)
      | int i => exact iteT (no rfl)
      | str z h => exact iteT (no rfl)
      | lst e => exact iteT (no rfl)
      | tup e => exact iteT (no rfl)
      | dK e => exact iteT (no rfl)
end
end K13

namespace K13
open PySem PySem.Spec PyProof.Rows L2 So
theorem cut63 (xs : List V) : cutV xs none (some 63) = xs.take 63 := by
  unfold cutV
  rw [HT.sIx_none, show HT.sIx xs.length xs.length (some 63) = min 63 xs.length from HT.sIx_nat xs.length xs.length 63]
  simp
theorem same_upd0 {H : Hp} {p : Addr} {o : HO} (h : H p = none) : Same H (upd H p o) := Same.over (Same.refl H) h
theorem same3 {H : Hp} {a b c : Addr} {o1 o2 o3 : HO} (ha : H a = none) (hb : upd H a o1 b = none) (hc : upd (upd H a o1) b o2 c = none) : Same H (upd (upd (upd H a o1) b o2) c o3) ∧ H c = none :=
  have s2 := (same_upd0 (o := o1) ha).trans (same_upd0 (o := o2) hb)
  ⟨s2.trans (same_upd0 hc), s2.free hc⟩
section
variable {P : Program} {w : World} {K : PySem.W.Frag} {mg : Str → Option Value} {base : Heap}
def spPen (K : PySem.W.Frag) : Sp := fun vs H Q _ => ∃ (a : Addr) (ns : List Int), vs = [.ref a] ∧ SqL K H a (ns.map V.int) ∧ ∀ (H' : Hp) (p l : Addr) (ns' : List Int), Same H H' → Pen H' p l ns' 0 0 → Q (.ref p) H'
theorem ok_pen {f : Addr} {fd : FuncData} (F : Fun K "_law_pen" "_law_pen" sPen f fd) (ml : mg "list" = none) : FnOk P w K mg base CX0 1 f fd ["_law_script"] (spPen K) := by
  refine F.ok scPen (fun vs H Q E h => ?_) (fun cdv A outer s H vs Q E hr h => ?_)
  · obtain ⟨a, ns, rfl, _⟩ := h
    rfl
  · obtain ⟨a, ns, rfl, hS, q⟩ := h
    refine ⟨_, pss_one (ps_ret (pe_lst (pa_cons (pe_callTy call_list_of (by rfl) ml (by decide +kernel) (pa_cons (pe_slice sl_list (pv 0) po_none (po_some pe_int)) pa_nil)) (pa_cons pe_int (pa_cons pe_int pa_nil))))), ?_⟩
    refine ⟨_, rfl, 63, rfl, a, ns.map V.int, rfl, hS, fun c hc => ?_⟩
    rw [cut63, ← List.map_take]
    refine ⟨c, _, rfl, .inl (SqL.of upd_same), fun l hl => ?_⟩
    refine ⟨by show 3 ≤ sizeLine; decide, fun p hp => ?_⟩
    have s1 : Same H (upd (upd (upd H c (.lst ((ns.take 63).map V.int))) l (.lst ((ns.take 63).map V.int))) p (.lst [.ref l, .int 0, .int 0])) := by
      refine ((same_upd0 hc).trans (same_upd0 hl)).trans (same_upd0 hp)
    have nlp : l ≠ p := fun e => by
      rw [e, upd_same] at hp
      cases hp
    exact q _ p l (ns.take 63) s1 ⟨upd_same, (upd_ne nlp).trans upd_same, Int.le_refl 0⟩
def Nm (z : Str) (k : Nat) : Prop := 1 ≤ z.length ∧ z.length ≤ k ∧ z.cps.toList.headD 0 ∈ letters.cps.toList ∧ z.cps.toList.all isAln = true
theorem Nm.one {c : Nat} (h : c ∈ letters.cps.toList) : Nm ⟨#[c]⟩ 1 := by
  refine ⟨Nat.le_refl _, Nat.le_refl _, h, ?_⟩
  have : isAln c = true := decide_eq_true (by
    show c ∈ (letters.cps ++ digits.cps).toList
    rw [Array.toList_append]
    exact List.mem_append_left _ h)
  simp [this]
theorem Nm.more {z : Str} {k c : Nat} (h : Nm z k) (hc : c ∈ (letters ++ digits).cps.toList) : Nm (z ++ ⟨#[c]⟩) (k + 1) := by
  obtain ⟨h1, h2, h3, h4⟩ := h
  have e : (z ++ (⟨#[c]⟩ : Str)).cps.toList = z.cps.toList ++ [c] := Array.toList_append
  have el : (z ++ (⟨#[c]⟩ : Str)).length = z.length + 1 := by
    show (z ++ (⟨#[c]⟩ : Str)).cps.size = z.cps.size + 1
    rw [← Array.length_toList, e, List.length_append, Array.length_toList]
    rfl
  refine ⟨by omega, by omega, ?_, ?_⟩
  · rw [e]
    cases q : z.cps.toList with
    | nil =>
      have : z.length = z.cps.toList.length := Array.length_toList.symm
      rw [q] at this
      simp at this
      omega
    | cons a r =>
      rw [q] at h3
      exact h3
  · rw [e, List.all_append, h4]
    simp [isAln, hc]
theorem Nm.name {z : Str} (h : Nm z 8) (hn : noNames.contains z = false) : isName z = true := by
  obtain ⟨h1, h2, h3, h4⟩ := h
  unfold isName
  rw [decide_eq_true h1, decide_eq_true h2, hn, decide_eq_true h3, h4]
  rfl
theorem x_name : ∀ z ∈ noNames, isName (("x" : Str) ++ cutS z (some 1) none) = true := by decide +kernel
theorem x_len : ∀ z ∈ noNames, ("x" : Str).length + (cutS z (some 1) none).length ≤ 100 := by decide +kernel
theorem len_noNames : ∀ z ∈ noNames, z.length ≤ 8 := by decide +kernel

end
end K13

/-! enumerate(a tuple) as what a for goes through -/
namespace So
open PySem PySem.Spec PyProof.Rows L2
/-- enumerate(v): what pyIter of v makes, in an enumerate's cell -/
theorem enum_new1 {v : Value} {o : Obj} {Hp0 : Heap → Prop} (B : Begins v o Hp0) : Meets (Builtin.«enumerate.__new__» ⟨[.type "enumerate", v], []⟩) (fun _ R s => Hp0 s.heap ∧
    R (.ok (.ret (.ref (s.heap.push o).objs.size))) { s with heap := (s.heap.push o).push { cls := .type "enumerate", data := .fields #[.none, .bool false, .ref s.heap.objs.size, rawInt 0, .none, .none] } }) :=
  .of_wp fun prog w A R s h => by
    obtain ⟨hp, g, d, tk, os⟩ := s
    obtain ⟨h1, h⟩ := h
    have hsub := sub_enumerate
    have q1 : ∀ {A' : Around} {E : Value → Shared → Prop} {Q : Value → Shared → Prop}, Q (.ref hp.objs.size) ⟨hp.push o, g, d, tk, os⟩ → wpAny (model prog w) A' (pyIter v) Q E ⟨hp, g, d, tk, os⟩ :=
      fun q => B.iter prog w _ _ ⟨hp, g, d, tk, os⟩ _ h1 q
    wp_walk using q1
    refine wpAny_stack_any fun st => wpAny_pure ?_
    split
    · rename_i c _ _ _ _ _
      cases (c == Value.type "enumerate") <;> (wp_walk using q1; exact ⟨_, rfl, h⟩)
    · wp_walk using q1
      exact ⟨_, rfl, h⟩
/-- behind the last item -/
theorem enum_endT {prog : Program} {w : World} {A : Around} {E : Value → Shared → Prop} {s : Shared} {e it a : Addr} {i : Int} {j : Nat} {items : Array Value} {old : Value} {Q : Option Value → Shared → Prop} (hh : A.handled = none) (he : IsEnum s.heap e it i old)
    (hit : s.heap.IsTupleIter it a j) (ht : s.heap.IsTuple a items) (hx : items[j]? = none) (hQ : ∀ h', Heap.ExtBut it s.heap h' → Q none { s with heap := h' }) : wpAny (model prog w) A (pyNext (.ref e)) Q E s := by
  have hT : s.TypeIs (.ref e) "enumerate" := ⟨_, he, rfl⟩
  unfold pyNext
  refine wpAny_bind (wpAny_attempt (wpAny_callSpecial?_slot (name := Str.ofString "__next__") hT PySem.F.slot_enumerate_next (wpAny_call_entry PySem.F.slot_enumerate_next hT PySem.F.entry_enumerate_next ?_ (PySem.F.args_enumerate_next_1 _))))
  show wpAny _ _ (field (.ref e) 2 >>= _) _ _ _
  refine wpAny_bind (wpAny_field he rfl (x := .ref it) rfl (wpAny_bind (wpAny_nextOf_tuple_end (A := A.in1) hh hit ht hx fun h' x he' hx' => ?_)))
  obtain ⟨o, ho, hc⟩ := hx'
  exact wpAny_bind (wpAny_isInstance (T := "StopIteration") (b := true) ⟨o, ho, hc⟩ isSubtype_stop (wpAny_pure (hQ _ he')))
/-- the tuple at a, each item in a new pair with its index -/
def IteT (K : PySem.W.Frag) (a : Addr) : It :=
  ⟨fun i H => ∃ (xs : List V) (x : V), SqT K H a xs ∧ xs[i]? = some x, fun i H v H' => ∃ T x, v = .ref T ∧ H T = none ∧ H' = upd H T (.tup [.int (i : Nat), x]) ∧ ∀ xs, SqT K H a xs → xs[i]? = some x, fun i H => ∃ xs : List V, SqT K H a xs ∧ xs.length ≤ i⟩
theorem walk_enumT {K : PySem.W.Frag} {a : Addr} {xs : List V} : Walk (IteT K a) xs.length (fun H => SqT K H a xs) (YPair (fun i => some (.int (i : Nat))) (fun i => xs[i]?)) := by
  refine ⟨fun i _ hi q => ⟨xs, xs[i], q, by simp [hi]⟩, fun _ q => ⟨xs, q, Nat.le_refl _⟩, fun i H v H' _ q y => ?_⟩
  obtain ⟨T, x, h1, h2, h3, h4⟩ := y
  exact ⟨T, .int (i : Nat), x, h1, h2, h3, rfl, h4 xs q⟩
theorem turn_enumT {P : Program} {w : World} {K : PySem.W.Frag} {elts : List Expr} {kk : Nat} {tpos : Pos} (a e it : Addr) :
    Turn P w K (.Tuple elts kk tpos) (IteT K a) [e, it] e (fun i h => (∃ old, IsEnum h e it ((i : Nat) : Int) old) ∧ h.IsTupleIter it a i ∧ e ≠ it ∧ a ≠ it ∧ a ≠ e) where
  mem := by simp
  obj := fun i h st b hb => by
    obtain ⟨⟨old, he⟩, ⟨o, ho, hc, hd⟩, _⟩ := st
    have e' : b = e ∨ b = it := by simpa using hb
    rcases e' with z | z
    · rw [z]
      exact ⟨_, he, fun v q => nomatch q⟩
    · rw [z]
      exact ⟨o, ho, fun v q => by rw [hd] at q; cases q⟩
  keep := fun i h h' st k => by
    obtain ⟨⟨old, he⟩, hi, ne⟩ := st
    exact ⟨⟨old, k e (by simp) _ he⟩, hi.at fun o q => k it (by simp) o q, ne⟩
  item := by
    intro X hP hw hK hc i pins s σ H E I hf st hg
    subst hP hw hK
    obtain ⟨⟨old, he⟩, hit, ne, nai, nae⟩ := st
    obtain ⟨xs, x, hq, hx⟩ := hg
    obtain ⟨its, rv, p, hz⟩ := I.tuple hq
    obtain ⟨u, hu, ru⟩ := rv.get hx
    have hel : e < s.heap.objs.size := Heap.lt_size he
    have hil : it < s.heap.objs.size := by
      obtain ⟨_, q, _⟩ := hit
      exact Heap.lt_size q
    have hT0 : s.heap.IsTuple a its.toArray := p
    have hi : i < its.toArray.size := by
      have := (List.getElem?_eq_some_iff.mp hu).1
      simpa using this
    refine wpAny_pyNext_enum_itemD (Draws.tuple (A := X.A.in1) (show X.A.in1.handled = none from I.ok.hd hc) it a nai its.toArray) he ⟨hit, hT0⟩ hi ne (by simp [ne, Ne.symm nae]) fun x' h' tk hp ho hst hT hsz hk => ?_
    have ex : x' = u := by
      have h1 : its.toArray[i]? = some x' := hp
      have h2 : its.toArray[i]? = some u := by simpa using hu
      exact Option.some.inj (h1.symm.trans h2)
    subst ex
    refine ⟨_, rfl, wpAny_letOwnedTupleGo_enum (s := { s with heap := h', toks := tk + 1 }) ho fun h'' he' sb => ?_⟩
    have hT2 : h''.get? s.heap.objs.size = some { cls := .type "tuple", data := .seq #[.int i tk, x'] } := (sb.2 _ (Nat.ne_of_gt hel)).trans hT
    have new : ObjOk X.prog X.w (upd H s.heap.objs.size (.tup [.int (i : Nat), x])) h'' s.heap.objs.size (.tup [.int (i : Nat), x]) :=
      ⟨by show 2 ≤ sizeLine; decide, [.int i tk, x'], .cons ⟨_, rfl⟩ (.cons ru .nil), ⟨_, hT2, rfl, _, rfl⟩⟩
    have I1 : Inv X pins σ (upd H s.heap.objs.size (.tup [.int (i : Nat), x])) { s with heap := h'', toks := tk + 1 } :=
      I.turnedNew (ch := [e, it]) (fun b ob hb q => (sb.2 b (fun z => hb (by simp [z]))).trans (hk b ob (fun z => hb (by simp [z])) (fun z => hb (by simp [z])) q)) hf (Nat.le_refl _) new
    refine ⟨.ref s.heap.objs.size, _, I1, rfl, ⟨_, x, rfl, I.hok.fresh (Nat.le_refl _), rfl, fun ys hy => by rw [I.tuple_inj hy hq]; exact hx⟩, ⟨⟨x', ?_⟩, hst.1.at fun o q => (sb.2 it (Ne.symm ne)).trans q, ne, nai, nae⟩, fun b hb => ?_⟩
    · have e1 : ((i + 1 : Nat) : Int) = (i : Int) + 1 := by omega
      rw [e1]
      exact he'
    · have hb' : b < s.heap.objs.size := by
        have e' : b = e ∨ b = it := by simpa using hb
        rcases e' with z | z
        · rw [z]
          exact hel
        · rw [z]
          exact hil
      rw [upd_ne (Nat.ne_of_lt hb')]
      exact (hf b hb).1
  done := by
    intro X hP hw hK hc i pins s σ H E I hf st hg
    subst hP hw hK
    obtain ⟨⟨old, he⟩, hit, ne, nai, nae⟩ := st
    obtain ⟨xs, hq, hx⟩ := hg
    obtain ⟨its, rv, p, hz⟩ := I.tuple hq
    obtain ⟨f0, f1, f2, f3, f4, f5⟩ := hf it (by simp)
    have hl := rv.length
    exact enum_endT (I.ok.hd hc) he hit (show s.heap.IsTuple a its.toArray from p) (by simp; omega) fun h' eb => ⟨rfl, I.turned (t' := s.toks) (fun b o hb q => eb b o hb q) f0 f1 f3 f4 f5⟩
  self := fun A i s Q E st h => by
    obtain ⟨⟨_, he⟩, _⟩ := st
    exact wpAny_pyIter_enum he h
def iEnumT (K : PySem.W.Frag) (ta : TA) : TI := fun σ H R => ta σ H fun vs H1 => ∃ a xs, vs = [.ref a] ∧ SqT K H1 a xs ∧ R (IteT K a) H1
theorem pi_enumT {X : Cx} {e : Expr} {ta : TA} {p pos tpos : Pos} {elts : List Expr} {kk : Nat} (hg : Gl X "enumerate") (hm : X.mg "enumerate" = none) (ha : PA X [e] ta) (hs : starEach [e] X.env = [(false, eval e X.env)] := by rfl) :
    PI X (.Tuple elts kk tpos) (.Call (.Name "enumerate" p) [e] [] pos) (iEnumT X.K ta) := by
  refine ⟨fun pins s σ H R I h => ?_⟩
  refine Call_ (ld_blt I hg hm boot_enumerate (PyProof.Rows.callWith_type1 (thn (ha.run pos pins s σ H _ I h) fun us s1 ⟨vs, H1, I1, r1, q1⟩ => ?_) hs rfl))
  obtain ⟨a, xs, rfl, hq, q⟩ := q1
  obtain ⟨u, rfl, ru⟩ := vals1 r1
  obtain rfl : u = Value.ref a := ru
  obtain ⟨its, rv, p', hz⟩ := I1.tuple hq
  have ht : s1.heap.IsTuple a its.toArray := p'
  have al : a < s1.heap.objs.size := by
    obtain ⟨o, ho, _⟩ := ht
    exact Heap.lt_size ho
  have sz : (s1.heap.push { cls := .type "tuple_iterator", data := .fields #[.ref a, .int 0 0] }).objs.size = s1.heap.objs.size + 1 := Heap.size_push ..
  refine callType_new PySem.F.called_enumerate (by decide) (PySem.F.typeCall_enumerate_1 _) (PySem.F.newCall_enumerate_1 _) (fun obj => PySem.F.args_object_init_2 obj _) PySem.F.entry_enumerate_new (enum_new1 (begins_tuple a its.toArray)) ⟨ht, ?_⟩
  show _ ∧ _
  rw [sz]
  have he : IsEnum ((s1.heap.push { cls := .type "tuple_iterator", data := .fields #[.ref a, .int 0 0] }).push { cls := .type "enumerate", data := .fields #[.none, .bool false, .ref s1.heap.objs.size, rawInt 0, .none, .none] }) (s1.heap.objs.size + 1) s1.heap.objs.size 0 .none := by
    have := Heap.get?_push_size (s1.heap.push { cls := .type "tuple_iterator", data := .fields #[.ref a, .int 0 0] }) (o := { cls := .type "enumerate", data := .fields #[.none, .bool false, .ref s1.heap.objs.size, rawInt 0, .none, .none] }) rfl
    rw [sz] at this
    exact this
  refine ⟨⟨_, he, rfl⟩, wpAny_pyIter_enum he ?_⟩
  have I2 : Inv X pins σ H1 { s1 with heap := (s1.heap.push { cls := .type "tuple_iterator", data := .fields #[.ref a, .int 0 0] }).push { cls := .type "enumerate", data := .fields #[.none, .bool false, .ref s1.heap.objs.size, rawInt 0, .none, .none] } } :=
    I1.kept (t' := s1.toks) fun b o x => Heap.get?_push_of_some _ (Heap.get?_push_of_some _ x)
  refine ⟨s1.heap.objs.size + 1, [s1.heap.objs.size + 1, s1.heap.objs.size], _, _, H1, rfl, I2, turn_enumT a (s1.heap.objs.size + 1) s1.heap.objs.size, ⟨⟨.none, he⟩, ⟨_, Heap.get?_push_of_some _ (Heap.get?_push_size _ rfl), rfl, rfl⟩, Nat.succ_ne_self _, Nat.ne_of_lt al, Nat.ne_of_lt (Nat.lt_succ_of_lt al)⟩, fun b hb => ?_, q⟩
  have e' : b = s1.heap.objs.size + 1 ∨ b = s1.heap.objs.size := by simpa using hb
  have hle : s1.heap.objs.size ≤ b := by
    rcases e' with z | z
    · rw [z]
      exact Nat.le_add_right _ _
    · rw [z]
      exact Nat.le_refl _
  exact I1.fpOk hle (I1.hok.fresh hle)
end So

/-! a method whose body is the one row super().m(..) -/
namespace So
open PySem PySem.Spec PyProof.Rows L2
/-- the env of a def that closes over its class's cell -/
abbrev envS (qual : Str) (scope : Scope) (L f : Addr) (cd : Value) (cc : Addr) : Env := PySem.W.ksEnv qual scope L f cd cc
def cxS (CX : CXT) (P : Program) (w : World) (K : PySem.W.Frag) (mg : Str → Option Value) (base : Heap) (N : List Str) (qual : Str) (scope : Scope) (f : Addr) (cd : Value) (cc : Addr) (A : Around) (outer : List Env) (s : Shared) (H : Hp) (E : XK) : Cx where
  prog := P
  w := w
  K := K
  mg := mg
  base := base
  A := A.deeper (envS qual scope s.heap.objs.size f cd cc)
  N := N
  s_0 := s
  H_0 := H
  env := envS qual scope s.heap.objs.size f cd cc
  outer := outer
  stack := envS qual scope s.heap.objs.size f cd cc :: outer
  ex := []
  calm := true
  fn := fun _ => false
  pn := []
  xe := fun e s' => wpAny (model P w) (A.deeper (envS qual scope s.heap.objs.size f cd cc)) (leaving (envS qual scope s.heap.objs.size f cd cc) e) (fun _ s'' => CX outer H s E e s'') (fun e' s'' => CX outer H s E e' s'') s'
/-- the names of such a def: all of them parameters, super and its class beside -/
structure SupScope (ps : List Str) (sc : Scope) : Prop where
  kind : sc.kind = .function
  co : sc.isCoroutine = false
  gen : sc.isGenerator = false
  nd : ps.Nodup
  par : ∀ x ∈ ps, sc.names.lookup x = some .local
  nocell : ∀ y ∈ sc.names, y.2 ≠ .cell
  free : ∀ y, sc.names.lookup y = some .free → y = "__class__"
  sup : sc.names.lookup ("super" : Str) = some .globalImplicit
  cls : sc.names.lookup ("__class__" : Str) = some .free
section
variable {CX : CXT} {P : Program} {w : World} {K : PySem.W.Frag} {mg : Str → Option Value} {base : Heap} {ps : List Str} {qual : Str} {scope : Scope} {f cc D : Addr} {cd : Value} {A : Around} {outer : List Env} {s : Shared} {H : Hp} {E : XK} {us : List Value} {vs : List V} {h₀ : Heap} {tk : Nat}
theorem zip_sub : ∀ (ps : List Str) (us : List Value), ((ps.zip us).map Prod.fst).Sublist ps
  | [], _ => by simp
  | p :: r, [] => by simp
  | p :: r, u :: t => by
    rw [List.zip_cons_cons, List.map_cons]
    exact (zip_sub r t).cons_cons p
theorem bindL_rev {qual : Str} {L f : Addr} {cd : Value} {x : Str} {v : Value} {us : List Value} {i : Nat} (nd : ps.Nodup) (h1 : ps[i]? = some x) (h2 : us[i]? = some v) : (ps.zip us).reverse.lookup x = some v := by
  have hm : (x, v) ∈ ps.zip us := by
    refine List.mem_of_getElem? (i := i) ?_
    rw [List.getElem?_zip_eq_some]
    exact ⟨h1, h2⟩
  have nd2 : ((ps.zip us).reverse.map Prod.fst).Nodup := by
    rw [List.map_reverse]
    have n0 : ((ps.zip us).map Prod.fst).Nodup := nd.sublist (zip_sub ps us)
    show List.Pairwise (· ≠ ·) _
    rw [List.pairwise_reverse]
    exact List.Pairwise.imp (fun h => Ne.symm h) n0
  have hm2 : (x, v) ∈ (ps.zip us).reverse := List.mem_reverse.mpr hm
  revert hm2 nd2
  generalize (ps.zip us).reverse = l
  intro nd2 hm2
  induction l with
  | nil => cases hm2
  | cons p r ih =>
    obtain ⟨y, u⟩ := p
    rw [List.map_cons, List.nodup_cons] at nd2
    rcases List.mem_cons.mp hm2 with e | e
    · cases e
      simp [List.lookup]
    · have ne : x ≠ y := fun z => nd2.1 (by
        rw [← z]
        exact List.mem_map.mpr ⟨_, e, rfl⟩)
      have : (x == y) = false := by simp [ne]
      rw [List.lookup_cons, this]
      exact ih nd2.2 e
theorem inv_sup (S : SupScope ps scope) (hd : A.handled = none) (e0 : Env0 P w K mg base A outer s H) (hl : vs.length = ps.length) (r : Vals vs us) {cl : Value} {cld : Option Addr} {csl : Array (Option Value)} (hcell : K.lookup cc = some ⟨cl, cld, .cell (some (.ref D)), csl⟩)
    (hns : h₀.Ns s.heap.objs.size (fun x => (ps.zip us).reverse.lookup x)) (hk : ∀ b o, s.heap.get? b = some o → h₀.get? b = some o) :
    Inv (cxS CX P w K mg base ps qual scope f cd cc A outer s H E) [] (L2.start ps vs) H { s with heap := h₀, toks := tk } := by
  have KX : K.In base := e0.mod.kin
  have cb := KX _ _ hcell
  have noA : ∀ b : Addr, b ∉ (cxS CX P w K mg base ps qual scope f cd cc A outer s H E).ex := fun b z => absurd (show b ∈ ([] : List Addr) from z) (by simp)
  have lk : ∀ {x : Str} {c : Addr}, List.lookup x [(("__class__" : Str), cc)] = some c → x = "__class__" ∧ c = cc := fun {x c} h => by
    by_cases e : x = "__class__"
    · subst e
      simp [List.lookup] at h
      exact ⟨rfl, h.symm⟩
    · have : (x == ("__class__" : Str)) = false := by simp [e]
      rw [List.lookup_cons, this] at h
      cases h
  refine ⟨⟨e0.mod, S.kind, rfl, rfl, Nat.le_refl _, fun y z c h1 h2 => ?_, fun y hy => ?_, fun y c h _ => (by cases h), fun _ => hd, Around.frames_deeper e0.frames, .inr ⟨rfl, rfl⟩, fun b z => absurd z (noA b), e0.bs, e0.bsz, fun b _ _ => noA b, fun b z => absurd z (noA b), e0.funs, e0.frf⟩,
    rfl, e0.bare, Un.kept hk, ⟨_, hns, fun i y v h1 h2 h3 => ?_⟩, fun y c h => ?_, e0.hok.fresh (Nat.le_refl _), fun y c h => ?_, fun p hp => absurd (show p ∈ ([] : List (Addr × Obj)) from hp) (by simp), e0.hok.kept hk, ?_⟩
  · exact (lk h1).1.trans (lk h2).1.symm
  · have hy : scope.names.lookup y = some .cell ∨ scope.names.lookup y = some .free := hy
    rcases hy with hy | hy
    · exact absurd rfl (S.nocell _ (PySem.mem_of_lookup hy))
    · rw [S.free y hy]
      exact ⟨cc, by show List.lookup _ [_] = _; simp [List.lookup]⟩
  · unfold L2.start at h2
    rw [hl, Nat.sub_self, List.replicate_zero, List.append_nil, List.getElem?_map] at h2
    obtain ⟨v', e1, e2⟩ : ∃ v', vs[i]? = some v' ∧ some v' = some v := by
      cases e : vs[i]? with
      | none => rw [e] at h2; cases h2
      | some a => rw [e] at h2; exact ⟨a, rfl, Option.some.inj h2⟩
    cases e2
    obtain ⟨u, hu, rv⟩ := r.get e1
    exact ⟨u, rv, .inl ⟨S.par y (List.mem_of_getElem? h1), bindL_rev (qual := qual) (L := 0) (f := 0) (cd := cd) S.nd h1 hu⟩⟩
  · obtain ⟨_, rfl⟩ := lk h
    exact ⟨_, ⟨_, hk _ _ (e0.bs _ _ cb).1, rfl⟩⟩
  · obtain ⟨_, rfl⟩ := lk h
    exact (e0.bs _ _ cb).2
  · unfold L2.start
    show _ = ps.length
    rw [List.length_append, List.length_map, List.length_replicate]
    omega
/-- what the written part says of such a def -/
structure SupFn (K : PySem.W.Frag) (P : Program) (name qual : Str) (params : Arguments) (body : List Stmt) (scope : Scope) (D cc f : Addr) (cd : Value) (fd : FuncData) : Prop where
  ex : ∃ (oc : Value) (od : Option Addr) (kV doc pm : Value) (an : Option Addr) (ct : Value) (osl : Array (Option Value)), fd = PySem.W.ksFn name qual params body scope .none kV doc pm an cd ct cc ∧ K.lookup f = some ⟨oc, od, .func fd, osl⟩ ∧ PySem.W.codeIn K cd qual = true
  kp : PySem.W.keepIn K (.ref f) = true
  cell : ∃ (cl : Value) (cld : Option Addr) (csl : Array (Option Value)), K.lookup cc = some ⟨cl, cld, .cell (some (.ref D)), csl⟩
  code : ∃ (cda : Addr) (ccl : Value) (cdd : Option Addr) (vs : Array Value) (ccs : Array (Option Value)) (file : Str) (tf : Tok), cd = .ref cda ∧ K.lookup cda = some ⟨ccl, cdd, .fields vs, ccs⟩ ∧ vs[2]? = some (.str file tf) ∧ ((P.main.file : Str) == file) = true
  top : (P.main.scope.names.lookup ("super" : Str)).isSome = false
  opq : PySem.W.nsIn K PySem.cStatics "thirdparty.any" = some none
  cls : ∃ cdD, PySem.W.clsIn K D = some cdD
theorem ok_super {k : Nat} {name self m : Str} {params : Arguments} {e : Expr} {es : List Expr} {p0 p1 pa pc pe : Pos} {fd fd2 : FuncData} {f2 C : Addr} {ps2 : List Str} {sp2 : Sp} {t : TA} {cd : Value}
    (F : SupFn K P name qual params [.Expr (.Call (.Attribute (.Call (.Name "super" p0) [] [] p1) m pa) (e :: es) [] pc) pe] scope D cc f cd fd) (S : SupScope ps scope) (hps : ps.head? = some self) (hpar : (params.posonlyargs ++ params.args).head?.map (·.arg) = some self)
    (hsup : mg "super" = none) (sub : PySem.W.mroIn K C (.ref D) = some true) (hcl : ∃ cdC, PySem.W.clsIn K C = some cdC) (hm : PySem.W.ks_superIn K C D m = some (some (.ref f2))) (ht : PySem.W.typeIn K (.ref f2) = some (.type "function")) (hfn : PySem.W.fnIn K f2 = true) (hmc : (m == ("__class__" : Str)) = false)
    (F2 : FnOk P w K mg base (L2.CX P w) k f2 fd2 ps2 sp2) (b2 : Binds K fd2 ps2 [])
    (ha : ∀ A outer s H E, PA (cxS (L2.CX P w) P w K mg base ps qual scope f cd cc A outer s H E) (e :: es) t)
    (hst : ∀ env, starEach (e :: es) env = (false, eval e env) :: starEach es env) (hpl : ∀ env, (backTo pc (starEach es env)).any (·.1) = false)
    (hsw : ∀ env, swapsWith (.Call (.Attribute (.Call (.Name "super" p0) [] [] p1) m pa) (e :: es) [] pc) none pe.line env = pure false)
    {pl : Env → Sem Bool} (hev : ∀ env, eval (.Call (.Attribute (.Call (.Name "super" p0) [] [] p1) m pa) (e :: es) [] pc) env = (do
      let ov ← attributeBase (.Call (.Name "super" p0) [] [] p1) m env (eval (.Call (.Name "super" p0) [] [] p1) env)
      standAt pa.atName
      let (f, first) ← holding [ov] (getMethod ov m (pl env))
      callWith pc f first (backTo pc (starEach (e :: es) env)) [])) :
    FnOk P w K mg base (L2.CX P w) (k + 1) f fd ps (fun vs H Q E => vs.length = ps.length ∧ ∃ (x dx : Addr) (fs : List (Str × V)) (rest : List V), vs = .ref x :: rest ∧ H x = some (.ins C dx fs) ∧ t (L2.start ps vs) H fun zs H' => sp2 (.ref x :: zs) H' (fun _ H'' => Q .non H'') E) := by
  refine ⟨fun _ _ _ _ h => h.1, fun A outer s H args us vs Q E hr e0 hb r hsp => ?_⟩
  obtain ⟨hl, x, dx, fs, rest, rfl, hx, hsp⟩ := hsp
  obtain ⟨oc, od, kV, doc, pm, an, ct, osl, rfl, lk, hcd⟩ := F.ex
  obtain ⟨cl, cld, csl, hcell⟩ := F.cell
  obtain ⟨cda, ccl, cdd, fv, ccs, file, tf, rfl, hcode, hvs, hfile⟩ := F.code
  obtain ⟨cdD, hD⟩ := F.cls
  have KX : K.In s.heap := e0.mod.kin.keeps fun b o e => (e0.bs b o e).1
  have lim : s.heap.NoLimit := e0.mod.nolimit.keeps fun b o e => (e0.bs b o e).1
  refine PySem.ks_codeAny_call_defAt (binds := ps.zip us) hr.depth (KX _ _ lk) rfl lim (PySem.W.codeRec_of KX hcd) rfl hb S.nocell (fun y hy => S.par y.1 (List.of_mem_zip (a := y.1) (b := y.2) hy).1) (fun h₀ hns hk => ?_) S.co S.gen S.kind
  have I := inv_sup (CX := L2.CX P w) (P := P) (w := w) (mg := mg) (qual := qual) (f := f) (cd := .ref cda) (A := A) (outer := outer) (E := E) (tk := s.toks + (ps.zip us).length) S hr.hd e0 hl r hcell hns hk
  obtain ⟨ar, har, hself⟩ : ∃ ar, (params.posonlyargs ++ params.args).head? = some ar ∧ ar.arg = self := by
    cases e1 : (params.posonlyargs ++ params.args).head? with
    | none => rw [e1] at hpar; cases hpar
    | some ar => rw [e1] at hpar; exact ⟨ar, rfl, Option.some.inj hpar⟩
  have K0 : K.In h₀ := KX.keeps hk
  obtain ⟨oD, hD1, hD2⟩ : ∃ oD, h₀.get? D = some oD ∧ oD.data = .cls cdD := by
    unfold PySem.W.clsIn at hD
    split at hD
    · rename_i c d cd' sl ho
      cases hD
      exact ⟨_, K0 _ _ ho, rfl⟩
    · cases hD
  refine PySem.ks_wpAt_execs_cons (PySem.ks_wpAt_Expr_any (PySem.ks_wpAt_MethodCall ?_ (hev _)) (hi := by show (scope.kind == .module && _) = false; rw [S.kind]; rfl) (hs := hsw _))
  refine PySem.ks_wpAt_super_base S.sup S.cls hmc rfl (K0 _ _ lk) rfl har rfl (K0 _ _ hcode) rfl hvs hfile F.top ?_
  obtain ⟨mb, hb1, hb2⟩ := I.mod.blt
  refine PySem.W.ks_loadName_global S.kind S.sup (Calls.loadGlobal_builtin (I.mod.glob.keeps I.bk) hsup (hb1.keeps I.bk) ((hb2 "super" (by decide)).trans PyProof.Rows.Boot.«super») ⟨rfl, ?_⟩)
  refine wpAny_loadName_free S.kind S.cls (c := cc) (by rfl) ⟨_, K0 _ _ hcell, rfl⟩ ?_
  obtain ⟨u0, us', rfl, r1, r2⟩ : ∃ u0 us', us = u0 :: us' ∧ RelV (.ref x) u0 ∧ Vals rest us' := by
    cases r with
    | cons r1 r2 => exact ⟨_, _, rfl, r1, r2⟩
  obtain rfl : u0 = .ref x := r1
  have hp0 : ps[0]? = some ar.arg := by
    rw [hself, ← hps]
    cases ps <;> rfl
  refine wpAny_loadName_local S.kind (S.par _ (List.mem_of_getElem? hp0)) hns (bindL_rev (qual := qual) (L := 0) (f := 0) (cd := .none) S.nd hp0 (by rfl)) ?_
  refine PySem.ks_wpAny_isType_cls hD1 hD2 ⟨rfl, ?_⟩
  obtain ⟨mA, J, _⟩ := ins_get I.hok hx
  obtain ⟨odx, J, _⟩ := J.look
  obtain ⟨cdC, hC⟩ := hcl
  refine PySem.ks_wpAny_call_super hD1 hD2 J.at_ J.cls (fun c e => ?_) (PySem.W.looks_mroIn K0 sub) (fun h1 ho1 k1 => ?_)
  · have := J.no
    unfold PySem.W.notCls at this
    rw [e] at this
    exact Bool.noConfusion this
  have I1 := I.kept (t' := s.toks + (ps.zip (Value.ref x :: us')).length) k1
  have K1 : K.In h1 := K0.keeps k1
  have J1 := (ins_get I1.hok hx)
  obtain ⟨of2, hof, hofc⟩ : ∃ of, h1.get? f2 = some of ∧ of.cls = .type "function" := by
    have ht' : (K.lookup f2).map (·.cls) = some (.type "function") := ht
    cases z : K.lookup f2 with
    | none => rw [z] at ht'; cases ht'
    | some of => rw [z] at ht'; exact ⟨of, K1 _ _ z, Option.some.inj ht'⟩
  have hm' : PySem.W.alongIn K m ((cdC.mro.dropWhile (· != .ref D)).drop 1) = some (some (.ref f2)) := by
    unfold PySem.W.ks_superIn at hm
    rw [hC] at hm
    exact hm
  refine PySem.ks_wpAny_getMethod_super ho1 (PySem.W.looks_opaque K1 F.opq) (l₀ := cdC.mro) ?_ rfl K1 hm' hof hofc (PySem.W.ks_ne K0 J hC) hmc ?_
  · exact fun A Q E s k q => wpAny_bind ((PySem.W.looks_clsIn K1 hC) A _ E s k (wpAny_pure q))
  have hf0 : H h1.objs.size = none := I1.hok.fresh (Nat.le_refl _)
  have hfp := I1.fpOk (Nat.le_refl _) hf0
  have hget : (h1.push (PySem.W.methodObj (.ref f2) (.ref x))).get? h1.objs.size = some (PySem.W.methodObj (.ref f2) (.ref x)) := Heap.get?_push_at rfl rfl
  have I2 := I1.kept (h' := h1.push (PySem.W.methodObj (.ref f2) (.ref x))) (t' := s.toks + (ps.zip (Value.ref x :: us')).length + 1) (fun b o e => Heap.get?_push_of_some _ e)
  have I3 : Inv (cxS (L2.CX P w) P w K mg base ps qual scope f (.ref cda) cc A outer s H E) [(h1.objs.size, PySem.W.methodObj (.ref f2) (.ref x))] _ H _ := I2.pins_of fun p hp => by
    rw [List.mem_singleton.mp hp]
    exact ⟨hget, hf0, hfp.2.1, hfp.2.2.1, fun v z => nomatch z⟩
  have hX : Passes (L2.CX P w) (cxS (L2.CX P w) P w K mg base ps qual scope f (.ref cda) cc A outer s H E) E := passes_call (takes_of rfl rfl rfl rfl) (fun _ _ _ _ h => h)
  have hnb : base.get? h1.objs.size = none := by
    cases z : base.get? h1.objs.size with
    | none => rfl
    | some o => exact absurd (Heap.lt_size (k1 _ _ (hk _ _ (e0.bs _ _ z).1))) (Nat.lt_irrefl _)
  refine PySem.W.callWith_M (K := K) (h₀ := base) (L := s.heap.objs.size) (news := [(h1.objs.size, PySem.W.methodObj (.ref f2) (.ref x))]) e0.mod.kin (fun p hp => by rw [List.mem_singleton.mp hp]; exact ⟨hget, hfp.2.1, hnb⟩) (List.mem_singleton.mpr rfl) hfn ?_ (hst _) (hpl _)
  refine thn ((ha A outer s H E).run pc _ _ _ H _ I3 hsp) fun us2 s2 ⟨zs, H2, I4, rz, q2⟩ => ?_
  have hq := (I4.pin _ (List.mem_append_right _ (List.mem_singleton.mpr rfl))).1
  refine ⟨⟨hq, I4.kIn⟩, ?_⟩
  have r3 : Vals (.ref x :: zs) (.ref x :: us2) := .cons rfl rz
  have hl2 : (Value.ref x :: us2).length = ps2.length := by rw [← r3.length]; exact F2.len _ _ _ _ q2
  refine wpAny_call (PySem.W.method_call hq (codeAny_mono (F2.run _ _ s2 H2 ⟨.ref x :: us2, []⟩ (.ref x :: us2) (.ref x :: zs) _ E (hr.deeper _) I4.env0 (by have := b2 s2 (.ref x :: us2) I4.kIn (by rw [List.append_nil]; exact hl2); rw [List.append_nil] at this; exact this) r3 q2) fun r s' hq' => ?_))
  cases r with
  | error e => exact hX _ _ H2 s2 e s' I4 hq'
  | ok fl =>
    cases fl with
    | ret u =>
      obtain ⟨v, H', J', rv, q3⟩ := I4.after hq'
      exact wpAt_of_wpAny (wpAny_pure ⟨.non, H', J'.os, J'.bare, J'.base, J'.hok, rfl, q3⟩)
    | next => exact False.elim hq'
    | brk => exact False.elim hq'
    | cont => exact False.elim hq'
end
end So

namespace K13
open PySem PySem.Spec PyProof.Rows L2 So
abbrev sChecked : Stmt := topS 31
abbrev checkedN : List Str := ["kind", "told", "value", "form"]
theorem scChecked : FnScope checkedN ["kind", "told"] (defScope sChecked) := ⟨rfl, rfl, rfl, by decide +kernel, rfl, by decide +kernel, by decide +kernel⟩
/-- zip of two tuples, walked -/
theorem walk_zipT {K : PySem.W.Frag} {a b : Addr} {xs ys : List V} {n : Nat} (hn : n = min xs.length ys.length) : Walk (RZ.ItzT K a b) n (fun H => SqT K H a xs ∧ SqT K H b ys) (YPair (fun i => xs[i]?) (fun i => ys[i]?)) := by
  subst hn
  refine ⟨fun i _ hi q => ?_, fun _ q => ⟨xs, ys, q.1, q.2, by omega⟩, fun i H v H' _ q y => ?_⟩
  · have h1 : i < xs.length := by omega
    have h2 : i < ys.length := by omega
    exact ⟨xs, ys, xs[i], ys[i], q.1, q.2, by simp [h1], by simp [h2]⟩
  · obtain ⟨T, x, z, h1, h2, h3, h4, h5⟩ := y
    exact ⟨T, x, z, h1, h2, h3, h4 xs q.1, h5 ys q.2⟩
/-- the forms of a kind's arguments -/
def formsOf (kind : Str) : List Str :=
  if kind = "begun" then ["name", "beginning"] else if kind = "setby" then ["name", "beginning", "name"] else if kind = "found" then ["name", "moment", "truth"] else if kind = "trusted" then ["name"]
  else if kind = "passed" ∨ kind = "failed" then ["name", "moment", "name"] else ["name", "moment", "name", "moment"]
def kinds : List Str := ["begun", "setby", "found", "trusted", "passed", "failed", "agreed", "differed", "served", "backed"]
def okF (form : Str) (v : V) : Bool := if form = "name" then gNam v else if form = "moment" then gMom v else if form = "beginning" then gBeg v else gTru v
/-- the first value that has not its form: the error's class, the field, the value -/
def badL (CN CM CS : Addr) : List (V × Str) → Option (Addr × Str × V)
  | [] => none
  | (v, f) :: r => if okF f v = true then badL CN CM CS r else some (if f = "name" then (CN, "name", v) else if f = "truth" then (CS, "value", v) else (CM, "moment", v))
theorem badL_at {CN CM CS : Addr} {v : V} {f : Str} : ∀ {l : List (V × Str)} {i : Nat}, badL CN CM CS (l.take i) = none → l[i]? = some (v, f) → (okF f v = true → badL CN CM CS (l.take (i + 1)) = none) ∧ (okF f v = false → badL CN CM CS l = some (if f = "name" then (CN, ("name" : Str), v) else if f = "truth" then (CS, ("value" : Str), v) else (CM, ("moment" : Str), v)))
  | [], _, _, e => by simp at e
  | p :: r, 0, _, e => by
    have e : p = (v, f) := by simpa using e
    subst e
    refine ⟨fun h => ?_, fun h => ?_⟩
    · show badL CN CM CS [(v, f)] = none
      unfold badL
      rw [if_pos h]
      rfl
    · unfold badL
      rw [if_neg (by rw [h]; exact Bool.false_ne_true)]
  | (v', f') :: r, i + 1, h, e => by
    have h : badL CN CM CS ((v', f') :: r.take i) = none := h
    unfold badL at h
    split at h
    · rename_i c
      obtain ⟨a, b⟩ := badL_at (l := r) (i := i) h (by simpa using e)
      refine ⟨fun z => ?_, fun z => ?_⟩
      · show badL CN CM CS ((v', f') :: r.take (i + 1)) = none
        unfold badL
        rw [if_pos c]
        exact a z
      · unfold badL
        rw [if_pos c]
        exact b z
    · cases h
theorem forms_in : ∀ kind ∈ kinds, ∀ f ∈ formsOf kind, f ∈ (["name", "moment", "beginning", "truth"] : List Str) := by decide +kernel
theorem form_of {CN CM CS : Addr} {f : Str} {v : V} (h : f ∈ (["name", "moment", "beginning", "truth"] : List Str)) : ∃ C fl, Form CN CM CS f v (okF f v) C fl ∧ (if f = "name" then (CN, ("name" : Str), v) else if f = "truth" then (CS, "value", v) else (CM, "moment", v)) = (C, fl, v) := by
  simp only [List.mem_cons, List.not_mem_nil, or_false] at h
  rcases h with h | h | h | h <;> subst h
  · exact ⟨CN, "name", .inl ⟨rfl, rfl, rfl, rfl⟩, rfl⟩
  · exact ⟨CM, "moment", .inr (.inl ⟨rfl, rfl, rfl, rfl⟩), rfl⟩
  · exact ⟨CM, "moment", .inr (.inr (.inl ⟨rfl, rfl, rfl, rfl⟩)), rfl⟩
  · exact ⟨CS, "value", .inr (.inr (.inr ⟨rfl, rfl, rfl, rfl⟩)), rfl⟩
section
variable {P : Program} {w : World} {K : PySem.W.Frag} {mg : Str → Option Value} {base : Heap}
/-- what the top says of the table of forms, at aF -/
structure Forms (K : PySem.W.Frag) (w : World) (mg : Str → Option Value) (aF : Addr) : Prop where
  mgF : mg "FORMS" = some (.ref aF)
  tab : ∀ kind ∈ kinds, ∃ ft, KDct K w aF kind (.ref ft) ∧ ∀ H, SqT K H ft ((formsOf kind).map V.str)
  zip : mg "zip" = none
/-- both ways out of what looks at these values -/
def WaysL (CN CM CS : Addr) (l : List (V × Str)) (H : Hp) (E : XK) (q : Prop) : Prop :=
  (badL CN CM CS l = none → q) ∧ ∀ C fl v, badL CN CM CS l = some (C, fl, v) → ∀ d H', Same H H' → H' d = some (.xd [(fl, v)]) → E (.ref C) (some d) H'
def spChecked (CN CM CS : Addr) : Sp := fun vs H Q E => ∃ (kind : Str) (tt : Addr) (xs : List V), vs = [.str kind, .ref tt] ∧ kind ∈ kinds ∧ H tt = some (.tup xs) ∧ xs.length = (formsOf kind).length ∧ (∀ x ∈ xs, ∃ T, Gv H x T) ∧
  WaysL CN CM CS (xs.zip (formsOf kind)) H E (∀ H', Same H H' → Q (.ref tt) H')
theorem ok_checked {CN CM CS f fC aF : Addr} {fd fdC : FuncData} (F : Fun K "checked" "checked" sChecked f fd) (T : Forms K w mg aF) (FC : Fun K "check_form" "check_form" sCheck fC fdC) (bC : Binds K fdC ["value", "form"] []) (gC : mg "check_form" = some (.ref fC))
    (GC : FnOk P w K mg base (L2.CX P w) 3 fC fdC ["value", "form"] (spCheck CN CM CS)) : FnOk P w K mg base (L2.CX P w) 4 f fd ["kind", "told"] (spChecked CN CM CS) := by
  refine F.okX scChecked (fun vs H Q E h => ?_) (fun cdv A outer s H vs Q E hr h => ?_)
  · obtain ⟨_, _, _, rfl, _⟩ := h
    rfl
  · obtain ⟨kind, tt, xs, rfl, hk, ht, hl, hg, qy, qn⟩ := h
    obtain ⟨ft, hd, hft⟩ := T.tab kind hk
    have hfo := forms_in kind hk
    refine ⟨_, pss_cons (ps_for PassesOwn.leaving rfl (RZ.pi_zipA (by rfl) T.zip (pa_cons (pv 1) (pa_cons (pe_ix ix_kdict (pe_glob (v := .ref aF) rfl T.mgF rfl) (pv 0) (fun _ _ => rfl)) pa_nil))) (pg_tup rfl (pgs_cons (pg_name (i := 2) scChecked.nd rfl (Or.inl rfl)) (pgs_cons (pg_name (i := 3) scChecked.nd rfl (Or.inl rfl)) pgs_nil)))
        (pss_one (ps_expr (pe_call GC hr (by rfl) gC FC.kp bC .nil (passes_call (takes_of rfl rfl rfl rfl) (fun _ _ _ _ h => h)) (pa_cons (pv 2) (pa_cons (pv 3) pa_nil))))))
      (pss_one (ps_ret (pv 1))), ?_⟩
    generalize formsOf kind = fo at hl hft hfo qy qn
    refine ⟨_, rfl, _, rfl, aF, kind, .ref ft, rfl, rfl, hd, tt, ft, xs, fo.map V.str, rfl, .inr ⟨SqT.of ht, hft _, ?_⟩⟩
    refine for_it (walk_zipT rfl) (fun i σ H' => (∃ x2 x3, σ = [some (.str kind), some (.ref tt), x2, x3]) ∧ Same H H' ∧ badL CN CM CS ((xs.zip fo).take i) = none) ⟨⟨none, none, rfl⟩, Same.refl _, rfl⟩ (fun _ _ _ _ y => ⟨SqT.of (y.2.1 _ _ ht), hft _⟩) ?_ ?_
    · rintro i x σ H2 H3 hi ⟨⟨x2, x3, rfl⟩, s2, hb⟩ ⟨T0, u, y, rfl, hT0, rfl, hu, hy⟩
      have s3 := s2.trans (same_upd0 (o := .tup [u, y]) hT0)
      replace hy : (fo.map V.str)[i]? = some y := hy
      rw [List.getElem?_map] at hy
      obtain ⟨fm, hfm, rfl⟩ : ∃ fm, fo[i]? = some fm ∧ y = .str fm := by
        cases e : fo[i]? with
        | none => rw [e] at hy; cases hy
        | some m => rw [e] at hy; exact ⟨m, rfl, (Option.some.inj hy).symm⟩
      replace hu : xs[i]? = some u := hu
      obtain ⟨Tu, hgu⟩ := hg u (List.mem_of_getElem? hu)
      have hz : (xs.zip fo)[i]? = some (u, fm) := by
        rw [List.getElem?_zip_eq_some]
        exact ⟨hu, hfm⟩
      obtain ⟨C, fl, hF, he⟩ := form_of (CN := CN) (CM := CM) (CS := CS) (v := u) (hfo fm (List.mem_of_getElem? hfm))
      obtain ⟨b1, b2⟩ := badL_at hb hz
      refine ⟨T0, _, rfl, SqT.of upd_same, rfl, _, _, rfl, _, _, rfl, rfl, ?_⟩
      refine ⟨_, rfl, _, rfl, u, Tu, fm, _, C, fl, rfl, hgu.same s3, hF, fun g H4 s4 => ⟨⟨_, _, rfl⟩, s3.trans s4, b1 g⟩, fun g d H4 s4 e => ?_⟩
      exact qn C fl u (by rw [b2 g, he]) d H4 (s3.trans s4) e
    · rintro σ H2 ⟨⟨x2, x3, rfl⟩, s2, hb⟩
      refine ⟨_, rfl, qy ?_ H2 s2⟩
      rw [List.take_of_length_le (by rw [List.length_zip, List.length_map]; exact Nat.le_refl _)] at hb
      exact hb
end
end K13

namespace K13
open PySem PySem.Spec PyProof.Rows L2 So
theorem lenC {n : Str} {v : V} {fs : List (Str × V)} {k : Nat} (h : fs.length ≤ k) : (putF n v fs).length ≤ k + 1 := Nat.le_trans (length_putF _ _ _) (Nat.succ_le_succ h)
section
variable {P : Program} {w : World} {K : PySem.W.Frag} {mg : Str → Option Value} {base : Heap}
/-- what the top says of a row's class -/
structure RowC (K : PySem.W.Frag) (C : Addr) (l : List Str) : Prop where
  cl : Cls K C
  no : ∀ n ∈ l, NoAttr K C n
/-- the names of a row's arguments -/
def attrsOf (kind : Str) : List Str := if kind = "begun" then ["tool", "moment"] else if kind = "found" then ["tool", "moment", "is_sound"] else if kind = "trusted" then ["tool"] else if kind = "setby" ∨ kind = "passed" ∨ kind = "failed" then ["tool", "moment", "by"] else ["one", "moment", "other", "later"]
/-- the methods of rows are no fields -/
abbrev methR : List Str := ["renamed", "pairs", "_excluded", "_told_as", "tools", "moments", "begins", "read"]
def NoM (fs : List (Str × V)) : Prop := ∀ m ∈ methR, fs.lookup m = none
theorem NoM.nil : NoM [] := fun _ _ => rfl
theorem NoM.put {fs : List (Str × V)} {n : Str} {v : V} (h : NoM fs) (hn : n ∉ methR) : NoM (putF n v fs) := fun m hm => by
  rw [lookup_putF, if_neg (fun z : m = n => hn (by rw [← z]; exact hm))]
  exact h m hm
/-- what a row keeps -/
def Told (kind : Str) (xs : List V) (H : Hp) (fs : List (Str × V)) : Prop := fs.lookup ("kind" : Str) = some (V.str kind) ∧ (∃ tp, fs.lookup ("_told" : Str) = some (.ref tp) ∧ H tp = some (.tup xs)) ∧ (∀ q ∈ (attrsOf kind).zip xs, fs.lookup q.1 = some q.2) ∧ NoM fs
theorem attrs_begun : attrsOf "begun" = (["tool", "moment"] : List Str) := by decide +kernel
theorem attrs_setby : attrsOf "setby" = (["tool", "moment", "by"] : List Str) := by decide +kernel
theorem attrs_found : attrsOf "found" = (["tool", "moment", "is_sound"] : List Str) := by decide +kernel
theorem attrs_trusted : attrsOf "trusted" = (["tool"] : List Str) := by decide +kernel
theorem attrs_passed : attrsOf "passed" = (["tool", "moment", "by"] : List Str) := by decide +kernel
theorem attrs_failed : attrsOf "failed" = (["tool", "moment", "by"] : List Str) := by decide +kernel
theorem attrs_meet : ∀ kind ∈ (["agreed", "differed", "served", "backed"] : List Str), attrsOf kind = (["one", "moment", "other", "later"] : List Str) := by decide +kernel
def spRow (CN CM CS C : Addr) (kind : Str) : Sp := fun vs H Q E => ∃ (x dx : Addr) (xs : List V), vs = .ref x :: xs ∧ H x = some (.ins C dx []) ∧ xs.length = (formsOf kind).length ∧ (∀ y ∈ xs, ∃ T, Gv H y T) ∧
  WaysL CN CM CS (xs.zip (formsOf kind)) H E (∀ H' fs, Off x H H' → H' x = some (.ins C dx fs) → Told kind xs H' fs → Q .non H')
abbrev sBegun : Stmt := inClass (topS 36) 0
theorem scBegun : FnScope ["self", "tool", "moment"] ["self", "tool", "moment"] (defScope sBegun) := ⟨rfl, rfl, rfl, by decide +kernel, rfl, by decide +kernel, by decide +kernel⟩
theorem ok_Begun {CN CM CS C f fK : Addr} {fd fdK : FuncData} (F : Fun K "__init__" "Begun.__init__" sBegun f fd) (T : RowC K C ["_told", "kind", "tool", "moment"]) (FK : Fun K "checked" "checked" sChecked fK fdK) (bK : Binds K fdK ["kind", "told"] []) (gK : mg "checked" = some (.ref fK))
    (GK : FnOk P w K mg base (L2.CX P w) 4 fK fdK ["kind", "told"] (spChecked CN CM CS)) : FnOk P w K mg base (L2.CX P w) 5 f fd ["self", "tool", "moment"] (spRow CN CM CS C "begun") := by
  refine F.okX scBegun (fun vs H Q E h => ?_) (fun cdv A outer s H vs Q E hr h => ?_)
  · obtain ⟨x, dx, xs, rfl, _, hl, _⟩ := h
    show xs.length + 1 = 3
    have : (formsOf "begun").length = 2 := by decide +kernel
    omega
  · obtain ⟨x, dx, xs, rfl, hx, hl, hg, qy, qn⟩ := h
    have hkin : ("begun" : Str) ∈ kinds := by decide +kernel
    have hl4 : (formsOf "begun").length = 2 := by decide +kernel
    obtain ⟨v0, v1, rfl⟩ : ∃ v0 v1, xs = [v0, v1] := by
      rw [hl4] at hl
      match xs, hl with
      | [v0, v1], _ => exact ⟨_, _, rfl⟩
    have no := T.no
    simp only [List.forall_mem_cons] at no
    obtain ⟨n0, n1, n2, n3, _⟩ := no
    refine ⟨_, pss_cons (ps_fld (pv 0) (pe_call GK hr (by rfl) gK FK.kp bK .nil (passes_call (takes_of rfl rfl rfl rfl) (fun _ _ _ _ h => h)) (pa_cons pe_str (pa_cons (pe_tup (pa_cons (pv 1) (pa_cons (pv 2) pa_nil))) pa_nil))) rfl)
      (pss_cons (ps_fld (pv 0) pe_str rfl)
      (pss_cons (ps_fld (pv 0) (pv 1) rfl) (pss_one (ps_fld (pv 0) (pv 2) rfl)))), ?_⟩
    refine ⟨_, rfl, _, rfl, by show 2 ≤ sizeLine; decide, fun tp htp => ?_⟩
    have s1 := same_upd0 (o := .tup [v0, v1]) htp
    refine ⟨"begun", tp, [v0, v1], rfl, hkin, upd_same, hl, (fun y hy => (hg y hy).elim fun T h => ⟨T, h.same s1⟩), fun gd H2 s2 => ?_, fun C' fl v g d H' s e => qn C' fl v g d H' (s1.trans s) e⟩
    have hx2 := s2 _ _ (s1 _ _ hx)
    have s12 := s1.trans s2
    refine ⟨_, rfl, x, C, dx, [], rfl, hx2, T.cl, n0, by show 0 < 1000; decide, ?_⟩
    refine ⟨_, rfl, x, C, dx, _, rfl, upd_same, T.cl, n1, Nat.lt_of_le_of_lt (lenC (Nat.le_refl 0)) (by decide), ?_⟩
    refine ⟨_, rfl, _, rfl, x, C, dx, _, rfl, upd_same, T.cl, n2, Nat.lt_of_le_of_lt (lenC (lenC (Nat.le_refl 0))) (by decide), ?_⟩
    refine ⟨_, rfl, _, rfl, x, C, dx, _, rfl, upd_same, T.cl, n3, Nat.lt_of_le_of_lt (lenC (lenC (lenC (Nat.le_refl 0)))) (by decide), ?_⟩
    refine qy gd _ _ (fun c o nc e => ?_) upd_same ?_
    · rw [upd_ne nc, upd_ne nc, upd_ne nc, upd_ne nc]
      exact s12 c o e
    · have ntp : tp ≠ x := fun z => by rw [z, hx] at htp; cases htp
      have etp := s2 _ _ (show (upd H tp (.tup _)) tp = _ from upd_same)
      refine ⟨?_, ⟨tp, ?_, ?_⟩, ?_, (by repeat (first | exact NoM.nil | refine NoM.put ?_ (by decide +kernel)))⟩
      · simp only [lookup_putF, show ¬ (("kind" : Str) = "_told") by decide +kernel, show ¬ (("kind" : Str) = "tool") by decide +kernel, show ¬ (("kind" : Str) = "moment") by decide +kernel, show ¬ (("kind" : Str) = "by") by decide +kernel, show ¬ (("kind" : Str) = "is_sound") by decide +kernel, show ¬ (("kind" : Str) = "one") by decide +kernel, show ¬ (("kind" : Str) = "other") by decide +kernel, show ¬ (("kind" : Str) = "later") by decide +kernel, show ¬ (("_told" : Str) = "kind") by decide +kernel, show ¬ (("_told" : Str) = "tool") by decide +kernel, show ¬ (("_told" : Str) = "moment") by decide +kernel, show ¬ (("_told" : Str) = "by") by decide +kernel, show ¬ (("_told" : Str) = "is_sound") by decide +kernel, show ¬ (("_told" : Str) = "one") by decide +kernel, show ¬ (("_told" : Str) = "other") by decide +kernel, show ¬ (("_told" : Str) = "later") by decide +kernel, show ¬ (("tool" : Str) = "kind") by decide +kernel, show ¬ (("tool" : Str) = "_told") by decide +kernel, show ¬ (("tool" : Str) = "moment") by decide +kernel, show ¬ (("tool" : Str) = "by") by decide +kernel, show ¬ (("tool" : Str) = "is_sound") by decide +kernel, show ¬ (("tool" : Str) = "one") by decide +kernel, show ¬ (("tool" : Str) = "other") by decide +kernel, show ¬ (("tool" : Str) = "later") by decide +kernel, show ¬ (("moment" : Str) = "kind") by decide +kernel, show ¬ (("moment" : Str) = "_told") by decide +kernel, show ¬ (("moment" : Str) = "tool") by decide +kernel, show ¬ (("moment" : Str) = "by") by decide +kernel, show ¬ (("moment" : Str) = "is_sound") by decide +kernel, show ¬ (("moment" : Str) = "one") by decide +kernel, show ¬ (("moment" : Str) = "other") by decide +kernel, show ¬ (("moment" : Str) = "later") by decide +kernel, show ¬ (("by" : Str) = "kind") by decide +kernel, show ¬ (("by" : Str) = "_told") by decide +kernel, show ¬ (("by" : Str) = "tool") by decide +kernel, show ¬ (("by" : Str) = "moment") by decide +kernel, show ¬ (("by" : Str) = "is_sound") by decide +kernel, show ¬ (("by" : Str) = "one") by decide +kernel, show ¬ (("by" : Str) = "other") by decide +kernel, show ¬ (("by" : Str) = "later") by decide +kernel, show ¬ (("is_sound" : Str) = "kind") by decide +kernel, show ¬ (("is_sound" : Str) = "_told") by decide +kernel, show ¬ (("is_sound" : Str) = "tool") by decide +kernel, show ¬ (("is_sound" : Str) = "moment") by decide +kernel, show ¬ (("is_sound" : Str) = "by") by decide +kernel, show ¬ (("is_sound" : Str) = "one") by decide +kernel, show ¬ (("is_sound" : Str) = "other") by decide +kernel, show ¬ (("is_sound" : Str) = "later") by decide +kernel, show ¬ (("one" : Str) = "kind") by decide +kernel, show ¬ (("one" : Str) = "_told") by decide +kernel, show ¬ (("one" : Str) = "tool") by decide +kernel, show ¬ (("one" : Str) = "moment") by decide +kernel, show ¬ (("one" : Str) = "by") by decide +kernel, show ¬ (("one" : Str) = "is_sound") by decide +kernel, show ¬ (("one" : Str) = "other") by decide +kernel, show ¬ (("one" : Str) = "later") by decide +kernel, show ¬ (("other" : Str) = "kind") by decide +kernel, show ¬ (("other" : Str) = "_told") by decide +kernel, show ¬ (("other" : Str) = "tool") by decide +kernel, show ¬ (("other" : Str) = "moment") by decide +kernel, show ¬ (("other" : Str) = "by") by decide +kernel, show ¬ (("other" : Str) = "is_sound") by decide +kernel, show ¬ (("other" : Str) = "one") by decide +kernel, show ¬ (("other" : Str) = "later") by decide +kernel, show ¬ (("later" : Str) = "kind") by decide +kernel, show ¬ (("later" : Str) = "_told") by decide +kernel, show ¬ (("later" : Str) = "tool") by decide +kernel, show ¬ (("later" : Str) = "moment") by decide +kernel, show ¬ (("later" : Str) = "by") by decide +kernel, show ¬ (("later" : Str) = "is_sound") by decide +kernel, show ¬ (("later" : Str) = "one") by decide +kernel, show ¬ (("later" : Str) = "other") by decide +kernel, if_true, if_false]
      · simp only [lookup_putF, show ¬ (("kind" : Str) = "_told") by decide +kernel, show ¬ (("kind" : Str) = "tool") by decide +kernel, show ¬ (("kind" : Str) = "moment") by decide +kernel, show ¬ (("kind" : Str) = "by") by decide +kernel, show ¬ (("kind" : Str) = "is_sound") by decide +kernel, show ¬ (("kind" : Str) = "one") by decide +kernel, show ¬ (("kind" : Str) = "other") by decide +kernel, show ¬ (("kind" : Str) = "later") by decide +kernel, show ¬ (("_told" : Str) = "kind") by decide +kernel, show ¬ (("_told" : Str) = "tool") by decide +kernel, show ¬ (("_told" : Str) = "moment") by decide +kernel, show ¬ (("_told" : Str) = "by") by decide +kernel, show ¬ (("_told" : Str) = "is_sound") by decide +kernel, show ¬ (("_told" : Str) = "one") by decide +kernel, show ¬ (("_told" : Str) = "other") by decide +kernel, show ¬ (("_told" : Str) = "later") by decide +kernel, show ¬ (("tool" : Str) = "kind") by decide +kernel, show ¬ (("tool" : Str) = "_told") by decide +kernel, show ¬ (("tool" : Str) = "moment") by decide +kernel, show ¬ (("tool" : Str) = "by") by decide +kernel, show ¬ (("tool" : Str) = "is_sound") by decide +kernel, show ¬ (("tool" : Str) = "one") by decide +kernel, show ¬ (("tool" : Str) = "other") by decide +kernel, show ¬ (("tool" : Str) = "later") by decide +kernel, show ¬ (("moment" : Str) = "kind") by decide +kernel, show ¬ (("moment" : Str) = "_told") by decide +kernel, show ¬ (("moment" : Str) = "tool") by decide +kernel, show ¬ (("moment" : Str) = "by") by decide +kernel, show ¬ (("moment" : Str) = "is_sound") by decide +kernel, show ¬ (("moment" : Str) = "one") by decide +kernel, show ¬ (("moment" : Str) = "other") by decide +kernel, show ¬ (("moment" : Str) = "later") by decide +kernel, show ¬ (("by" : Str) = "kind") by decide +kernel, show ¬ (("by" : Str) = "_told") by decide +kernel, show ¬ (("by" : Str) = "tool") by decide +kernel, show ¬ (("by" : Str) = "moment") by decide +kernel, show ¬ (("by" : Str) = "is_sound") by decide +kernel, show ¬ (("by" : Str) = "one") by decide +kernel, show ¬ (("by" : Str) = "other") by decide +kernel, show ¬ (("by" : Str) = "later") by decide +kernel, show ¬ (("is_sound" : Str) = "kind") by decide +kernel, show ¬ (("is_sound" : Str) = "_told") by decide +kernel, show ¬ (("is_sound" : Str) = "tool") by decide +kernel, show ¬ (("is_sound" : Str) = "moment") by decide +kernel, show ¬ (("is_sound" : Str) = "by") by decide +kernel, show ¬ (("is_sound" : Str) = "one") by decide +kernel, show ¬ (("is_sound" : Str) = "other") by decide +kernel, show ¬ (("is_sound" : Str) = "later") by decide +kernel, show ¬ (("one" : Str) = "kind") by decide +kernel, show ¬ (("one" : Str) = "_told") by decide +kernel, show ¬ (("one" : Str) = "tool") by decide +kernel, show ¬ (("one" : Str) = "moment") by decide +kernel, show ¬ (("one" : Str) = "by") by decide +kernel, show ¬ (("one" : Str) = "is_sound") by decide +kernel, show ¬ (("one" : Str) = "other") by decide +kernel, show ¬ (("one" : Str) = "later") by decide +kernel, show ¬ (("other" : Str) = "kind") by decide +kernel, show ¬ (("other" : Str) = "_told") by decide +kernel, show ¬ (("other" : Str) = "tool") by decide +kernel, show ¬ (("other" : Str) = "moment") by decide +kernel, show ¬ (("other" : Str) = "by") by decide +kernel, show ¬ (("other" : Str) = "is_sound") by decide +kernel, show ¬ (("other" : Str) = "one") by decide +kernel, show ¬ (("other" : Str) = "later") by decide +kernel, show ¬ (("later" : Str) = "kind") by decide +kernel, show ¬ (("later" : Str) = "_told") by decide +kernel, show ¬ (("later" : Str) = "tool") by decide +kernel, show ¬ (("later" : Str) = "moment") by decide +kernel, show ¬ (("later" : Str) = "by") by decide +kernel, show ¬ (("later" : Str) = "is_sound") by decide +kernel, show ¬ (("later" : Str) = "one") by decide +kernel, show ¬ (("later" : Str) = "other") by decide +kernel, if_true, if_false]
      · repeat rw [upd_ne ntp]
        exact etp
      · rw [attrs_begun]
        simp only [List.zip_cons_cons, List.zip_nil_right, List.forall_mem_cons]
        refine ⟨(by simp only [lookup_putF, show ¬ (("kind" : Str) = "_told") by decide +kernel, show ¬ (("kind" : Str) = "tool") by decide +kernel, show ¬ (("kind" : Str) = "moment") by decide +kernel, show ¬ (("kind" : Str) = "by") by decide +kernel, show ¬ (("kind" : Str) = "is_sound") by decide +kernel, show ¬ (("kind" : Str) = "one") by decide +kernel, show ¬ (("kind" : Str) = "other") by decide +kernel, show ¬ (("kind" : Str) = "later") by decide +kernel, show ¬ (("_told" : Str) = "kind") by decide +kernel, show ¬ (("_told" : Str) = "tool") by decide +kernel, show ¬ (("_told" : Str) = "moment") by decide +kernel, show ¬ (("_told" : Str) = "by") by decide +kernel, show ¬ (("_told" : Str) = "is_sound") by decide +kernel, show ¬ (("_told" : Str) = "one") by decide +kernel, show ¬ (("_told" : Str) = "other") by decide +kernel, show ¬ (("_told" : Str) = "later") by decide +kernel, show ¬ (("tool" : Str) = "kind") by decide +kernel, show ¬ (("tool" : Str) = "_told") by decide +kernel, show ¬ (("tool" : Str) = "moment") by decide +kernel, show ¬ (("tool" : Str) = "by") by decide +kernel, show ¬ (("tool" : Str) = "is_sound") by decide +kernel, show ¬ (("tool" : Str) = "one") by decide +kernel, show ¬ (("tool" : Str) = "other") by decide +kernel, show ¬ (("tool" : Str) = "later") by decide +kernel, show ¬ (("moment" : Str) = "kind") by decide +kernel, show ¬ (("moment" : Str) = "_told") by decide +kernel, show ¬ (("moment" : Str) = "tool") by decide +kernel, show ¬ (("moment" : Str) = "by") by decide +kernel, show ¬ (("moment" : Str) = "is_sound") by decide +kernel, show ¬ (("moment" : Str) = "one") by decide +kernel, show ¬ (("moment" : Str) = "other") by decide +kernel, show ¬ (("moment" : Str) = "later") by decide +kernel, show ¬ (("by" : Str) = "kind") by decide +kernel, show ¬ (("by" : Str) = "_told") by decide +kernel, show ¬ (("by" : Str) = "tool") by decide +kernel, show ¬ (("by" : Str) = "moment") by decide +kernel, show ¬ (("by" : Str) = "is_sound") by decide +kernel, show ¬ (("by" : Str) = "one") by decide +kernel, show ¬ (("by" : Str) = "other") by decide +kernel, show ¬ (("by" : Str) = "later") by decide +kernel, show ¬ (("is_sound" : Str) = "kind") by decide +kernel, show ¬ (("is_sound" : Str) = "_told") by decide +kernel, show ¬ (("is_sound" : Str) = "tool") by decide +kernel, show ¬ (("is_sound" : Str) = "moment") by decide +kernel, show ¬ (("is_sound" : Str) = "by") by decide +kernel, show ¬ (("is_sound" : Str) = "one") by decide +kernel, show ¬ (("is_sound" : Str) = "other") by decide +kernel, show ¬ (("is_sound" : Str) = "later") by decide +kernel, show ¬ (("one" : Str) = "kind") by decide +kernel, show ¬ (("one" : Str) = "_told") by decide +kernel, show ¬ (("one" : Str) = "tool") by decide +kernel, show ¬ (("one" : Str) = "moment") by decide +kernel, show ¬ (("one" : Str) = "by") by decide +kernel, show ¬ (("one" : Str) = "is_sound") by decide +kernel, show ¬ (("one" : Str) = "other") by decide +kernel, show ¬ (("one" : Str) = "later") by decide +kernel, show ¬ (("other" : Str) = "kind") by decide +kernel, show ¬ (("other" : Str) = "_told") by decide +kernel, show ¬ (("other" : Str) = "tool") by decide +kernel, show ¬ (("other" : Str) = "moment") by decide +kernel, show ¬ (("other" : Str) = "by") by decide +kernel, show ¬ (("other" : Str) = "is_sound") by decide +kernel, show ¬ (("other" : Str) = "one") by decide +kernel, show ¬ (("other" : Str) = "later") by decide +kernel, show ¬ (("later" : Str) = "kind") by decide +kernel, show ¬ (("later" : Str) = "_told") by decide +kernel, show ¬ (("later" : Str) = "tool") by decide +kernel, show ¬ (("later" : Str) = "moment") by decide +kernel, show ¬ (("later" : Str) = "by") by decide +kernel, show ¬ (("later" : Str) = "is_sound") by decide +kernel, show ¬ (("later" : Str) = "one") by decide +kernel, show ¬ (("later" : Str) = "other") by decide +kernel, if_true, if_false]), (by simp only [lookup_putF, show ¬ (("kind" : Str) = "_told") by decide +kernel, show ¬ (("kind" : Str) = "tool") by decide +kernel, show ¬ (("kind" : Str) = "moment") by decide +kernel, show ¬ (("kind" : Str) = "by") by decide +kernel, show ¬ (("kind" : Str) = "is_sound") by decide +kernel, show ¬ (("kind" : Str) = "one") by decide +kernel, show ¬ (("kind" : Str) = "other") by decide +kernel, show ¬ (("kind" : Str) = "later") by decide +kernel, show ¬ (("_told" : Str) = "kind") by decide +kernel, show ¬ (("_told" : Str) = "tool") by decide +kernel, show ¬ (("_told" : Str) = "moment") by decide +kernel, show ¬ (("_told" : Str) = "by") by decide +kernel, show ¬ (("_told" : Str) = "is_sound") by decide +kernel, show ¬ (("_told" : Str) = "one") by decide +kernel, show ¬ (("_told" : Str) = "other") by decide +kernel, show ¬ (("_told" : Str) = "later") by decide +kernel, show ¬ (("tool" : Str) = "kind") by decide +kernel, show ¬ (("tool" : Str) = "_told") by decide +kernel, show ¬ (("tool" : Str) = "moment") by decide +kernel, show ¬ (("tool" : Str) = "by") by decide +kernel, show ¬ (("tool" : Str) = "is_sound") by decide +kernel, show ¬ (("tool" : Str) = "one") by decide +kernel, show ¬ (("tool" : Str) = "other") by decide +kernel, show ¬ (("tool" : Str) = "later") by decide +kernel, show ¬ (("moment" : Str) = "kind") by decide +kernel, show ¬ (("moment" : Str) = "_told") by decide +kernel, show ¬ (("moment" : Str) = "tool") by decide +kernel, show ¬ (("moment" : Str) = "by") by decide +kernel, show ¬ (("moment" : Str) = "is_sound") by decide +kernel, show ¬ (("moment" : Str) = "one") by decide +kernel, show ¬ (("moment" : Str) = "other") by decide +kernel, show ¬ (("moment" : Str) = "later") by decide +kernel, show ¬ (("by" : Str) = "kind") by decide +kernel, show ¬ (("by" : Str) = "_told") by decide +kernel, show ¬ (("by" : Str) = "tool") by decide +kernel, show ¬ (("by" : Str) = "moment") by decide +kernel, show ¬ (("by" : Str) = "is_sound") by decide +kernel, show ¬ (("by" : Str) = "one") by decide +kernel, show ¬ (("by" : Str) = "other") by decide +kernel, show ¬ (("by" : Str) = "later") by decide +kernel, show ¬ (("is_sound" : Str) = "kind") by decide +kernel, show ¬ (("is_sound" : Str) = "_told") by decide +kernel, show ¬ (("is_sound" : Str) = "tool") by decide +kernel, show ¬ (("is_sound" : Str) = "moment") by decide +kernel, show ¬ (("is_sound" : Str) = "by") by decide +kernel, show ¬ (("is_sound" : Str) = "one") by decide +kernel, show ¬ (("is_sound" : Str) = "other") by decide +kernel, show ¬ (("is_sound" : Str) = "later") by decide +kernel, show ¬ (("one" : Str) = "kind") by decide +kernel, show ¬ (("one" : Str) = "_told") by decide +kernel, show ¬ (("one" : Str) = "tool") by decide +kernel, show ¬ (("one" : Str) = "moment") by decide +kernel, show ¬ (("one" : Str) = "by") by decide +kernel, show ¬ (("one" : Str) = "is_sound") by decide +kernel, show ¬ (("one" : Str) = "other") by decide +kernel, show ¬ (("one" : Str) = "later") by decide +kernel, show ¬ (("other" : Str) = "kind") by decide +kernel, show ¬ (("other" : Str) = "_told") by decide +kernel, show ¬ (("other" : Str) = "tool") by decide +kernel, show ¬ (("other" : Str) = "moment") by decide +kernel, show ¬ (("other" : Str) = "by") by decide +kernel, show ¬ (("other" : Str) = "is_sound") by decide +kernel, show ¬ (("other" : Str) = "one") by decide +kernel, show ¬ (("other" : Str) = "later") by decide +kernel, show ¬ (("later" : Str) = "kind") by decide +kernel, show ¬ (("later" : Str) = "_told") by decide +kernel, show ¬ (("later" : Str) = "tool") by decide +kernel, show ¬ (("later" : Str) = "moment") by decide +kernel, show ¬ (("later" : Str) = "by") by decide +kernel, show ¬ (("later" : Str) = "is_sound") by decide +kernel, show ¬ (("later" : Str) = "one") by decide +kernel, show ¬ (("later" : Str) = "other") by decide +kernel, if_true, if_false]), fun _ h => nomatch h⟩
abbrev sSetBy : Stmt := inClass (topS 37) 0
theorem scSetBy : FnScope ["self", "tool", "moment", "by"] ["self", "tool", "moment", "by"] (defScope sSetBy) := ⟨rfl, rfl, rfl, by decide +kernel, rfl, by decide +kernel, by decide +kernel⟩
theorem ok_SetBy {CN CM CS C f fK : Addr} {fd fdK : FuncData} (F : Fun K "__init__" "SetBy.__init__" sSetBy f fd) (T : RowC K C ["_told", "kind", "tool", "moment", "by"]) (FK : Fun K "checked" "checked" sChecked fK fdK) (bK : Binds K fdK ["kind", "told"] []) (gK : mg "checked" = some (.ref fK))
    (GK : FnOk P w K mg base (L2.CX P w) 4 fK fdK ["kind", "told"] (spChecked CN CM CS)) : FnOk P w K mg base (L2.CX P w) 5 f fd ["self", "tool", "moment", "by"] (spRow CN CM CS C "setby") := by
  refine F.okX scSetBy (fun vs H Q E h => ?_) (fun cdv A outer s H vs Q E hr h => ?_)
  · obtain ⟨x, dx, xs, rfl, _, hl, _⟩ := h
    show xs.length + 1 = 4
    have : (formsOf "setby").length = 3 := by decide +kernel
    omega
  · obtain ⟨x, dx, xs, rfl, hx, hl, hg, qy, qn⟩ := h
    have hkin : ("setby" : Str) ∈ kinds := by decide +kernel
    have hl4 : (formsOf "setby").length = 3 := by decide +kernel
    obtain ⟨v0, v1, v2, rfl⟩ : ∃ v0 v1 v2, xs = [v0, v1, v2] := by
      rw [hl4] at hl
      match xs, hl with
      | [v0, v1, v2], _ => exact ⟨_, _, _, rfl⟩
    have no := T.no
    simp only [List.forall_mem_cons] at no
    obtain ⟨n0, n1, n2, n3, n4, _⟩ := no
    refine ⟨_, pss_cons (ps_fld (pv 0) (pe_call GK hr (by rfl) gK FK.kp bK .nil (passes_call (takes_of rfl rfl rfl rfl) (fun _ _ _ _ h => h)) (pa_cons pe_str (pa_cons (pe_tup (pa_cons (pv 1) (pa_cons (pv 2) (pa_cons (pv 3) pa_nil)))) pa_nil))) rfl)
      (pss_cons (ps_fld (pv 0) pe_str rfl)
      (pss_cons (ps_fld (pv 0) (pv 1) rfl) (pss_cons (ps_fld (pv 0) (pv 2) rfl) (pss_one (ps_fld (pv 0) (pv 3) rfl))))), ?_⟩
    refine ⟨_, rfl, _, rfl, _, rfl, by show 3 ≤ sizeLine; decide, fun tp htp => ?_⟩
    have s1 := same_upd0 (o := .tup [v0, v1, v2]) htp
    refine ⟨"setby", tp, [v0, v1, v2], rfl, hkin, upd_same, hl, (fun y hy => (hg y hy).elim fun T h => ⟨T, h.same s1⟩), fun gd H2 s2 => ?_, fun C' fl v g d H' s e => qn C' fl v g d H' (s1.trans s) e⟩
    have hx2 := s2 _ _ (s1 _ _ hx)
    have s12 := s1.trans s2
    refine ⟨_, rfl, x, C, dx, [], rfl, hx2, T.cl, n0, by show 0 < 1000; decide, ?_⟩
    refine ⟨_, rfl, x, C, dx, _, rfl, upd_same, T.cl, n1, Nat.lt_of_le_of_lt (lenC (Nat.le_refl 0)) (by decide), ?_⟩
    refine ⟨_, rfl, _, rfl, x, C, dx, _, rfl, upd_same, T.cl, n2, Nat.lt_of_le_of_lt (lenC (lenC (Nat.le_refl 0))) (by decide), ?_⟩
    refine ⟨_, rfl, _, rfl, x, C, dx, _, rfl, upd_same, T.cl, n3, Nat.lt_of_le_of_lt (lenC (lenC (lenC (Nat.le_refl 0)))) (by decide), ?_⟩
    refine ⟨_, rfl, _, rfl, x, C, dx, _, rfl, upd_same, T.cl, n4, Nat.lt_of_le_of_lt (lenC (lenC (lenC (lenC (Nat.le_refl 0))))) (by decide), ?_⟩
    refine qy gd _ _ (fun c o nc e => ?_) upd_same ?_
    · rw [upd_ne nc, upd_ne nc, upd_ne nc, upd_ne nc, upd_ne nc]
      exact s12 c o e
    · have ntp : tp ≠ x := fun z => by rw [z, hx] at htp; cases htp
      have etp := s2 _ _ (show (upd H tp (.tup _)) tp = _ from upd_same)
      refine ⟨?_, ⟨tp, ?_, ?_⟩, ?_, (by repeat (first | exact NoM.nil | refine NoM.put ?_ (by decide +kernel)))⟩
      · simp only [lookup_putF, show ¬ (("kind" : Str) = "_told") by decide +kernel, show ¬ (("kind" : Str) = "tool") by decide +kernel, show ¬ (("kind" : Str) = "moment") by decide +kernel, show ¬ (("kind" : Str) = "by") by decide +kernel, show ¬ (("kind" : Str) = "is_sound") by decide +kernel, show ¬ (("kind" : Str) = "one") by decide +kernel, show ¬ (("kind" : Str) = "other") by decide +kernel, show ¬ (("kind" : Str) = "later") by decide +kernel, show ¬ (("_told" : Str) = "kind") by decide +kernel, show ¬ (("_told" : Str) = "tool") by decide +kernel, show ¬ (("_told" : Str) = "moment") by decide +kernel, show ¬ (("_told" : Str) = "by") by decide +kernel, show ¬ (("_told" : Str) = "is_sound") by decide +kernel, show ¬ (("_told" : Str) = "one") by decide +kernel, show ¬ (("_told" : Str) = "other") by decide +kernel, show ¬ (("_told" : Str) = "later") by decide +kernel, show ¬ (("tool" : Str) = "kind") by decide +kernel, show ¬ (("tool" : Str) = "_told") by decide +kernel, show ¬ (("tool" : Str) = "moment") by decide +kernel, show ¬ (("tool" : Str) = "by") by decide +kernel, show ¬ (("tool" : Str) = "is_sound") by decide +kernel, show ¬ (("tool" : Str) = "one") by decide +kernel, show ¬ (("tool" : Str) = "other") by decide +kernel, show ¬ (("tool" : Str) = "later") by decide +kernel, show ¬ (("moment" : Str) = "kind") by decide +kernel, show ¬ (("moment" : Str) = "_told") by decide +kernel, show ¬ (("moment" : Str) = "tool") by decide +kernel, show ¬ (("moment" : Str) = "by") by decide +kernel, show ¬ (("moment" : Str) = "is_sound") by decide +kernel, show ¬ (("moment" : Str) = "one") by decide +kernel, show ¬ (("moment" : Str) = "other") by decide +kernel, show ¬ (("moment" : Str) = "later") by decide +kernel, show ¬ (("by" : Str) = "kind") by decide +kernel, show ¬ (("by" : Str) = "_told") by decide +kernel, show ¬ (("by" : Str) = "tool") by decide +kernel, show ¬ (("by" : Str) = "moment") by decide +kernel, show ¬ (("by" : Str) = "is_sound") by decide +kernel, show ¬ (("by" : Str) = "one") by decide +kernel, show ¬ (("by" : Str) = "other") by decide +kernel, show ¬ (("by" : Str) = "later") by decide +kernel, show ¬ (("is_sound" : Str) = "kind") by decide +kernel, show ¬ (("is_sound" : Str) = "_told") by decide +kernel, show ¬ (("is_sound" : Str) = "tool") by decide +kernel, show ¬ (("is_sound" : Str) = "moment") by decide +kernel, show ¬ (("is_sound" : Str) = "by") by decide +kernel, show ¬ (("is_sound" : Str) = "one") by decide +kernel, show ¬ (("is_sound" : Str) = "other") by decide +kernel, show ¬ (("is_sound" : Str) = "later") by decide +kernel, show ¬ (("one" : Str) = "kind") by decide +kernel, show ¬ (("one" : Str) = "_told") by decide +kernel, show ¬ (("one" : Str) = "tool") by decide +kernel, show ¬ (("one" : Str) = "moment") by decide +kernel, show ¬ (("one" : Str) = "by") by decide +kernel, show ¬ (("one" : Str) = "is_sound") by decide +kernel, show ¬ (("one" : Str) = "other") by decide +kernel, show ¬ (("one" : Str) = "later") by decide +kernel, show ¬ (("other" : Str) = "kind") by decide +kernel, show ¬ (("other" : Str) = "_told") by decide +kernel, show ¬ (("other" : Str) = "tool") by decide +kernel, show ¬ (("other" : Str) = "moment") by decide +kernel, show ¬ (("other" : Str) = "by") by decide +kernel, show ¬ (("other" : Str) = "is_sound") by decide +kernel, show ¬ (("other" : Str) = "one") by decide +kernel, show ¬ (("other" : Str) = "later") by decide +kernel, show ¬ (("later" : Str) = "kind") by decide +kernel, show ¬ (("later" : Str) = "_told") by decide +kernel, show ¬ (("later" : Str) = "tool") by decide +kernel, show ¬ (("later" : Str) = "moment") by decide +kernel, show ¬ (("later" : Str) = "by") by decide +kernel, show ¬ (("later" : Str) = "is_sound") by decide +kernel, show ¬ (("later" : Str) = "one") by decide +kernel, show ¬ (("later" : Str) = "other") by decide +kernel, if_true, if_false]
      · simp only [lookup_putF, show ¬ (("kind" : Str) = "_told") by decide +kernel, show ¬ (("kind" : Str) = "tool") by decide +kernel, show ¬ (("kind" : Str) = "moment") by decide +kernel, show ¬ (("kind" : Str) = "by") by decide +kernel, show ¬ (("kind" : Str) = "is_sound") by decide +kernel, show ¬ (("kind" : Str) = "one") by decide +kernel, show ¬ (("kind" : Str) = "other") by decide +kernel, show ¬ (("kind" : Str) = "later") by decide +kernel, show ¬ (("_told" : Str) = "kind") by decide +kernel, show ¬ (("_told" : Str) = "tool") by decide +kernel, show ¬ (("_told" : Str) = "moment") by decide +kernel, show ¬ (("_told" : Str) = "by") by decide +kernel, show ¬ (("_told" : Str) = "is_sound") by decide +kernel, show ¬ (("_told" : Str) = "one") by decide +kernel, show ¬ (("_told" : Str) = "other") by decide +kernel, show ¬ (("_told" : Str) = "later") by decide +kernel, show ¬ (("tool" : Str) = "kind") by decide +kernel, show ¬ (("tool" : Str) = "_told") by decide +kernel, show ¬ (("tool" : Str) = "moment") by decide +kernel, show ¬ (("tool" : Str) = "by") by decide +kernel, show ¬ (("tool" : Str) = "is_sound") by decide +kernel, show ¬ (("tool" : Str) = "one") by decide +kernel, show ¬ (("tool" : Str) = "other") by decide +kernel, show ¬ (("tool" : Str) = "later") by decide +kernel, show ¬ (("moment" : Str) = "kind") by decide +kernel, show ¬ (("moment" : Str) = "_told") by decide +kernel, show ¬ (("moment" : Str) = "tool") by decide +kernel, show ¬ (("moment" : Str) = "by") by decide +kernel, show ¬ (("moment" : Str) = "is_sound") by decide +kernel, show ¬ (("moment" : Str) = "one") by decide +kernel, show ¬ (("moment" : Str) = "other") by decide +kernel, show ¬ (("moment" : Str) = "later") by decide +kernel, show ¬ (("by" : Str) = "kind") by decide +kernel, show ¬ (("by" : Str) = "_told") by decide +kernel, show ¬ (("by" : Str) = "tool") by decide +kernel, show ¬ (("by" : Str) = "moment") by decide +kernel, show ¬ (("by" : Str) = "is_sound") by decide +kernel, show ¬ (("by" : Str) = "one") by decide +kernel, show ¬ (("by" : Str) = "other") by decide +kernel, show ¬ (("by" : Str) = "later") by decide +kernel, show ¬ (("is_sound" : Str) = "kind") by decide +kernel, show ¬ (("is_sound" : Str) = "_told") by decide +kernel, show ¬ (("is_sound" : Str) = "tool") by decide +kernel, show ¬ (("is_sound" : Str) = "moment") by decide +kernel, show ¬ (("is_sound" : Str) = "by") by decide +kernel, show ¬ (("is_sound" : Str) = "one") by decide +kernel, show ¬ (("is_sound" : Str) = "other") by decide +kernel, show ¬ (("is_sound" : Str) = "later") by decide +kernel, show ¬ (("one" : Str) = "kind") by decide +kernel, show ¬ (("one" : Str) = "_told") by decide +kernel, show ¬ (("one" : Str) = "tool") by decide +kernel, show ¬ (("one" : Str) = "moment") by decide +kernel, show ¬ (("one" : Str) = "by") by decide +kernel, show ¬ (("one" : Str) = "is_sound") by decide +kernel, show ¬ (("one" : Str) = "other") by decide +kernel, show ¬ (("one" : Str) = "later") by decide +kernel, show ¬ (("other" : Str) = "kind") by decide +kernel, show ¬ (("other" : Str) = "_told") by decide +kernel, show ¬ (("other" : Str) = "tool") by decide +kernel, show ¬ (("other" : Str) = "moment") by decide +kernel, show ¬ (("other" : Str) = "by") by decide +kernel, show ¬ (("other" : Str) = "is_sound") by decide +kernel, show ¬ (("other" : Str) = "one") by decide +kernel, show ¬ (("other" : Str) = "later") by decide +kernel, show ¬ (("later" : Str) = "kind") by decide +kernel, show ¬ (("later" : Str) = "_told") by decide +kernel, show ¬ (("later" : Str) = "tool") by decide +kernel, show ¬ (("later" : Str) = "moment") by decide +kernel, show ¬ (("later" : Str) = "by") by decide +kernel, show ¬ (("later" : Str) = "is_sound") by decide +kernel, show ¬ (("later" : Str) = "one") by decide +kernel, show ¬ (("later" : Str) = "other") by decide +kernel, if_true, if_false]
      · repeat rw [upd_ne ntp]
        exact etp
      · rw [attrs_setby]
        simp only [List.zip_cons_cons, List.zip_nil_right, List.forall_mem_cons]
        refine ⟨(by simp only [lookup_putF, show ¬ (("kind" : Str) = "_told") by decide +kernel, show ¬ (("kind" : Str) = "tool") by decide +kernel, show ¬ (("kind" : Str) = "moment") by decide +kernel, show ¬ (("kind" : Str) = "by") by decide +kernel, show ¬ (("kind" : Str) = "is_sound") by decide +kernel, show ¬ (("kind" : Str) = "one") by decide +kernel, show ¬ (("kind" : Str) = "other") by decide +kernel, show ¬ (("kind" : Str) = "later") by decide +kernel, show ¬ (("_told" : Str) = "kind") by decide +kernel, show ¬ (("_told" : Str) = "tool") by decide +kernel, show ¬ (("_told" : Str) = "moment") by decide +kernel, show ¬ (("_told" : Str) = "by") by decide +kernel, show ¬ (("_told" : Str) = "is_sound") by decide +kernel, show ¬ (("_told" : Str) = "one") by decide +kernel, show ¬ (("_told" : Str) = "other") by decide +kernel, show ¬ (("_told" : Str) = "later") by decide +kernel, show ¬ (("tool" : Str) = "kind") by decide +kernel, show ¬ (("tool" : Str) = "_told") by decide +kernel, show ¬ (("tool" : Str) = "moment") by decide +kernel, show ¬ (("tool" : Str) = "by") by decide +kernel, show ¬ (("tool" : Str) = "is_sound") by decide +kernel, show ¬ (("tool" : Str) = "one") by decide +kernel, show ¬ (("tool" : Str) = "other") by decide +kernel, show ¬ (("tool" : Str) = "later") by decide +kernel, show ¬ (("moment" : Str) = "kind") by decide +kernel, show ¬ (("moment" : Str) = "_told") by decide +kernel, show ¬ (("moment" : Str) = "tool") by decide +kernel, show ¬ (("moment" : Str) = "by") by decide +kernel, show ¬ (("moment" : Str) = "is_sound") by decide +kernel, show ¬ (("moment" : Str) = "one") by decide +kernel, show ¬ (("moment" : Str) = "other") by decide +kernel, show ¬ (("moment" : Str) = "later") by decide +kernel, show ¬ (("by" : Str) = "kind") by decide +kernel, show ¬ (("by" : Str) = "_told") by decide +kernel, show ¬ (("by" : Str) = "tool") by decide +kernel, show ¬ (("by" : Str) = "moment") by decide +kernel, show ¬ (("by" : Str) = "is_sound") by decide +kernel, show ¬ (("by" : Str) = "one") by decide +kernel, show ¬ (("by" : Str) = "other") by decide +kernel, show ¬ (("by" : Str) = "later") by decide +kernel, show ¬ (("is_sound" : Str) = "kind") by decide +kernel, show ¬ (("is_sound" : Str) = "_told") by decide +kernel, show ¬ (("is_sound" : Str) = "tool") by decide +kernel, show ¬ (("is_sound" : Str) = "moment") by decide +kernel, show ¬ (("is_sound" : Str) = "by") by decide +kernel, show ¬ (("is_sound" : Str) = "one") by decide +kernel, show ¬ (("is_sound" : Str) = "other") by decide +kernel, show ¬ (("is_sound" : Str) = "later") by decide +kernel, show ¬ (("one" : Str) = "kind") by decide +kernel, show ¬ (("one" : Str) = "_told") by decide +kernel, show ¬ (("one" : Str) = "tool") by decide +kernel, show ¬ (("one" : Str) = "moment") by decide +kernel, show ¬ (("one" : Str) = "by") by decide +kernel, show ¬ (("one" : Str) = "is_sound") by decide +kernel, show ¬ (("one" : Str) = "other") by decide +kernel, show ¬ (("one" : Str) = "later") by decide +kernel, show ¬ (("other" : Str) = "kind") by decide +kernel, show ¬ (("other" : Str) = "_told") by decide +kernel, show ¬ (("other" : Str) = "tool") by decide +kernel, show ¬ (("other" : Str) = "moment") by decide +kernel, show ¬ (("other" : Str) = "by") by decide +kernel, show ¬ (("other" : Str) = "is_sound") by decide +kernel, show ¬ (("other" : Str) = "one") by decide +kernel, show ¬ (("other" : Str) = "later") by decide +kernel, show ¬ (("later" : Str) = "kind") by decide +kernel, show ¬ (("later" : Str) = "_told") by decide +kernel, show ¬ (("later" : Str) = "tool") by decide +kernel, show ¬ (("later" : Str) = "moment") by decide +kernel, show ¬ (("later" : Str) = "by") by decide +kernel, show ¬ (("later" : Str) = "is_sound") by decide +kernel, show ¬ (("later" : Str) = "one") by decide +kernel, show ¬ (("later" : Str) = "other") by decide +kernel, if_true, if_false]), (by simp only [lookup_putF, show ¬ (("kind" : Str) = "_told") by decide +kernel, show ¬ (("kind" : Str) = "tool") by decide +kernel, show ¬ (("kind" : Str) = "moment") by decide +kernel, show ¬ (("kind" : Str) = "by") by decide +kernel, show ¬ (("kind" : Str) = "is_sound") by decide +kernel, show ¬ (("kind" : Str) = "one") by decide +kernel, show ¬ (("kind" : Str) = "other") by decide +kernel, show ¬ (("kind" : Str) = "later") by decide +kernel, show ¬ (("_told" : Str) = "kind") by decide +kernel, show ¬ (("_told" : Str) = "tool") by decide +kernel, show ¬ (("_told" : Str) = "moment") by decide +kernel, show ¬ (("_told" : Str) = "by") by decide +kernel, show ¬ (("_told" : Str) = "is_sound") by decide +kernel, show ¬ (("_told" : Str) = "one") by decide +kernel, show ¬ (("_told" : Str) = "other") by decide +kernel, show ¬ (("_told" : Str) = "later") by decide +kernel, show ¬ (("tool" : Str) = "kind") by decide +kernel, show ¬ (("tool" : Str) = "_told") by decide +kernel, show ¬ (("tool" : Str) = "moment") by decide +kernel, show ¬ (("tool" : Str) = "by") by decide +kernel, show ¬ (("tool" : Str) = "is_sound") by decide +kernel, show ¬ (("tool" : Str) = "one") by decide +kernel, show ¬ (("tool" : Str) = "other") by decide +kernel, show ¬ (("tool" : Str) = "later") by decide +kernel, show ¬ (("moment" : Str) = "kind") by decide +kernel, show ¬ (("moment" : Str) = "_told") by decide +kernel, show ¬ (("moment" : Str) = "tool") by decide +kernel, show ¬ (("moment" : Str) = "by") by decide +kernel, show ¬ (("moment" : Str) = "is_sound") by decide +kernel, show ¬ (("moment" : Str) = "one") by decide +kernel, show ¬ (("moment" : Str) = "other") by decide +kernel, show ¬ (("moment" : Str) = "later") by decide +kernel, show ¬ (("by" : Str) = "kind") by decide +kernel, show ¬ (("by" : Str) = "_told") by decide +kernel, show ¬ (("by" : Str) = "tool") by decide +kernel, show ¬ (("by" : Str) = "moment") by decide +kernel, show ¬ (("by" : Str) = "is_sound") by decide +kernel, show ¬ (("by" : Str) = "one") by decide +kernel, show ¬ (("by" : Str) = "other") by decide +kernel, show ¬ (("by" : Str) = "later") by decide +kernel, show ¬ (("is_sound" : Str) = "kind") by decide +kernel, show ¬ (("is_sound" : Str) = "_told") by decide +kernel, show ¬ (("is_sound" : Str) = "tool") by decide +kernel, show ¬ (("is_sound" : Str) = "moment") by decide +kernel, show ¬ (("is_sound" : Str) = "by") by decide +kernel, show ¬ (("is_sound" : Str) = "one") by decide +kernel, show ¬ (("is_sound" : Str) = "other") by decide +kernel, show ¬ (("is_sound" : Str) = "later") by decide +kernel, show ¬ (("one" : Str) = "kind") by decide +kernel, show ¬ (("one" : Str) = "_told") by decide +kernel, show ¬ (("one" : Str) = "tool") by decide +kernel, show ¬ (("one" : Str) = "moment") by decide +kernel, show ¬ (("one" : Str) = "by") by decide +kernel, show ¬ (("one" : Str) = "is_sound") by decide +kernel, show ¬ (("one" : Str) = "other") by decide +kernel, show ¬ (("one" : Str) = "later") by decide +kernel, show ¬ (("other" : Str) = "kind") by decide +kernel, show ¬ (("other" : Str) = "_told") by decide +kernel, show ¬ (("other" : Str) = "tool") by decide +kernel, show ¬ (("other" : Str) = "moment") by decide +kernel, show ¬ (("other" : Str) = "by") by decide +kernel, show ¬ (("other" : Str) = "is_sound") by decide +kernel, show ¬ (("other" : Str) = "one") by decide +kernel, show ¬ (("other" : Str) = "later") by decide +kernel, show ¬ (("later" : Str) = "kind") by decide +kernel, show ¬ (("later" : Str) = "_told") by decide +kernel, show ¬ (("later" : Str) = "tool") by decide +kernel, show ¬ (("later" : Str) = "moment") by decide +kernel, show ¬ (("later" : Str) = "by") by decide +kernel, show ¬ (("later" : Str) = "is_sound") by decide +kernel, show ¬ (("later" : Str) = "one") by decide +kernel, show ¬ (("later" : Str) = "other") by decide +kernel, if_true, if_false]), (by simp only [lookup_putF, show ¬ (("kind" : Str) = "_told") by decide +kernel, show ¬ (("kind" : Str) = "tool") by decide +kernel, show ¬ (("kind" : Str) = "moment") by decide +kernel, show ¬ (("kind" : Str) = "by") by decide +kernel, show ¬ (("kind" : Str) = "is_sound") by decide +kernel, show ¬ (("kind" : Str) = "one") by decide +kernel, show ¬ (("kind" : Str) = "other") by decide +kernel, show ¬ (("kind" : Str) = "later") by decide +kernel, show ¬ (("_told" : Str) = "kind") by decide +kernel, show ¬ (("_told" : Str) = "tool") by decide +kernel, show ¬ (("_told" : Str) = "moment") by decide +kernel, show ¬ (("_told" : Str) = "by") by decide +kernel, show ¬ (("_told" : Str) = "is_sound") by decide +kernel, show ¬ (("_told" : Str) = "one") by decide +kernel, show ¬ (("_told" : Str) = "other") by decide +kernel, show ¬ (("_told" : Str) = "later") by decide +kernel, show ¬ (("tool" : Str) = "kind") by decide +kernel, show ¬ (("tool" : Str) = "_told") by decide +kernel, show ¬ (("tool" : Str) = "moment") by decide +kernel, show ¬ (("tool" : Str) = "by") by decide +kernel, show ¬ (("tool" : Str) = "is_sound") by decide +kernel, show ¬ (("tool" : Str) = "one") by decide +kernel, show ¬ (("tool" : Str) = "other") by decide +kernel, show ¬ (("tool" : Str) = "later") by decide +kernel, show ¬ (("moment" : Str) = "kind") by decide +kernel, show ¬ (("moment" : Str) = "_told") by decide +kernel, show ¬ (("moment" : Str) = "tool") by decide +kernel, show ¬ (("moment" : Str) = "by") by decide +kernel, show ¬ (("moment" : Str) = "is_sound") by decide +kernel, show ¬ (("moment" : Str) = "one") by decide +kernel, show ¬ (("moment" : Str) = "other") by decide +kernel, show ¬ (("moment" : Str) = "later") by decide +kernel, show ¬ (("by" : Str) = "kind") by decide +kernel, show ¬ (("by" : Str) = "_told") by decide +kernel, show ¬ (("by" : Str) = "tool") by decide +kernel, show ¬ (("by" : Str) = "moment") by decide +kernel, show ¬ (("by" : Str) = "is_sound") by decide +kernel, show ¬ (("by" : Str) = "one") by decide +kernel, show ¬ (("by" : Str) = "other") by decide +kernel, show ¬ (("by" : Str) = "later") by decide +kernel, show ¬ (("is_sound" : Str) = "kind") by decide +kernel, show ¬ (("is_sound" : Str) = "_told") by decide +kernel, show ¬ (("is_sound" : Str) = "tool") by decide +kernel, show ¬ (("is_sound" : Str) = "moment") by decide +kernel, show ¬ (("is_sound" : Str) = "by") by decide +kernel, show ¬ (("is_sound" : Str) = "one") by decide +kernel, show ¬ (("is_sound" : Str) = "other") by decide +kernel, show ¬ (("is_sound" : Str) = "later") by decide +kernel, show ¬ (("one" : Str) = "kind") by decide +kernel, show ¬ (("one" : Str) = "_told") by decide +kernel, show ¬ (("one" : Str) = "tool") by decide +kernel, show ¬ (("one" : Str) = "moment") by decide +kernel, show ¬ (("one" : Str) = "by") by decide +kernel, show ¬ (("one" : Str) = "is_sound") by decide +kernel, show ¬ (("one" : Str) = "other") by decide +kernel, show ¬ (("one" : Str) = "later") by decide +kernel, show ¬ (("other" : Str) = "kind") by decide +kernel, show ¬ (("other" : Str) = "_told") by decide +kernel, show ¬ (("other" : Str) = "tool") by decide +kernel, show ¬ (("other" : Str) = "moment") by decide +kernel, show ¬ (("other" : Str) = "by") by decide +kernel, show ¬ (("other" : Str) = "is_sound") by decide +kernel, show ¬ (("other" : Str) = "one") by decide +kernel, show ¬ (("other" : Str) = "later") by decide +kernel, show ¬ (("later" : Str) = "kind") by decide +kernel, show ¬ (("later" : Str) = "_told") by decide +kernel, show ¬ (("later" : Str) = "tool") by decide +kernel, show ¬ (("later" : Str) = "moment") by decide +kernel, show ¬ (("later" : Str) = "by") by decide +kernel, show ¬ (("later" : Str) = "is_sound") by decide +kernel, show ¬ (("later" : Str) = "one") by decide +kernel, show ¬ (("later" : Str) = "other") by decide +kernel, if_true, if_false]), fun _ h => nomatch h⟩
abbrev sFound : Stmt := inClass (topS 38) 0
theorem scFound : FnScope ["self", "tool", "moment", "is_sound"] ["self", "tool", "moment", "is_sound"] (defScope sFound) := ⟨rfl, rfl, rfl, by decide +kernel, rfl, by decide +kernel, by decide +kernel⟩
theorem ok_Found {CN CM CS C f fK : Addr} {fd fdK : FuncData} (F : Fun K "__init__" "Found.__init__" sFound f fd) (T : RowC K C ["_told", "kind", "tool", "moment", "is_sound"]) (FK : Fun K "checked" "checked" sChecked fK fdK) (bK : Binds K fdK ["kind", "told"] []) (gK : mg "checked" = some (.ref fK))
    (GK : FnOk P w K mg base (L2.CX P w) 4 fK fdK ["kind", "told"] (spChecked CN CM CS)) : FnOk P w K mg base (L2.CX P w) 5 f fd ["self", "tool", "moment", "is_sound"] (spRow CN CM CS C "found") := by
  refine F.okX scFound (fun vs H Q E h => ?_) (fun cdv A outer s H vs Q E hr h => ?_)
  · obtain ⟨x, dx, xs, rfl, _, hl, _⟩ := h
    show xs.length + 1 = 4
    have : (formsOf "found").length = 3 := by decide +kernel
    omega
  · obtain ⟨x, dx, xs, rfl, hx, hl, hg, qy, qn⟩ := h
    have hkin : ("found" : Str) ∈ kinds := by decide +kernel
    have hl4 : (formsOf "found").length = 3 := by decide +kernel
    obtain ⟨v0, v1, v2, rfl⟩ : ∃ v0 v1 v2, xs = [v0, v1, v2] := by
      rw [hl4] at hl
      match xs, hl with
      | [v0, v1, v2], _ => exact ⟨_, _, _, rfl⟩
    have no := T.no
    simp only [List.forall_mem_cons] at no
    obtain ⟨n0, n1, n2, n3, n4, _⟩ := no
    refine ⟨_, pss_cons (ps_fld (pv 0) (pe_call GK hr (by rfl) gK FK.kp bK .nil (passes_call (takes_of rfl rfl rfl rfl) (fun _ _ _ _ h => h)) (pa_cons pe_str (pa_cons (pe_tup (pa_cons (pv 1) (pa_cons (pv 2) (pa_cons (pv 3) pa_nil)))) pa_nil))) rfl)
      (pss_cons (ps_fld (pv 0) pe_str rfl)
      (pss_cons (ps_fld (pv 0) (pv 1) rfl) (pss_cons (ps_fld (pv 0) (pv 2) rfl) (pss_one (ps_fld (pv 0) (pv 3) rfl))))), ?_⟩
    refine ⟨_, rfl, _, rfl, _, rfl, by show 3 ≤ sizeLine; decide, fun tp htp => ?_⟩
    have s1 := same_upd0 (o := .tup [v0, v1, v2]) htp
    refine ⟨"found", tp, [v0, v1, v2], rfl, hkin, upd_same, hl, (fun y hy => (hg y hy).elim fun T h => ⟨T, h.same s1⟩), fun gd H2 s2 => ?_, fun C' fl v g d H' s e => qn C' fl v g d H' (s1.trans s) e⟩
    have hx2 := s2 _ _ (s1 _ _ hx)
    have s12 := s1.trans s2
    refine ⟨_, rfl, x, C, dx, [], rfl, hx2, T.cl, n0, by show 0 < 1000; decide, ?_⟩
    refine ⟨_, rfl, x, C, dx, _, rfl, upd_same, T.cl, n1, Nat.lt_of_le_of_lt (lenC (Nat.le_refl 0)) (by decide), ?_⟩
    refine ⟨_, rfl, _, rfl, x, C, dx, _, rfl, upd_same, T.cl, n2, Nat.lt_of_le_of_lt (lenC (lenC (Nat.le_refl 0))) (by decide), ?_⟩
    refine ⟨_, rfl, _, rfl, x, C, dx, _, rfl, upd_same, T.cl, n3, Nat.lt_of_le_of_lt (lenC (lenC (lenC (Nat.le_refl 0)))) (by decide), ?_⟩
    refine ⟨_, rfl, _, rfl, x, C, dx, _, rfl, upd_same, T.cl, n4, Nat.lt_of_le_of_lt (lenC (lenC (lenC (lenC (Nat.le_refl 0))))) (by decide), ?_⟩
    refine qy gd _ _ (fun c o nc e => ?_) upd_same ?_
    · rw [upd_ne nc, upd_ne nc, upd_ne nc, upd_ne nc, upd_ne nc]
      exact s12 c o e
    · have ntp : tp ≠ x := fun z => by rw [z, hx] at htp; cases htp
      have etp := s2 _ _ (show (upd H tp (.tup _)) tp = _ from upd_same)
      refine ⟨?_, ⟨tp, ?_, ?_⟩, ?_, (by repeat (first | exact NoM.nil | refine NoM.put ?_ (by decide +kernel)))⟩
      · simp only [lookup_putF, show ¬ (("kind" : Str) = "_told") by decide +kernel, show ¬ (("kind" : Str) = "tool") by decide +kernel, show ¬ (("kind" : Str) = "moment") by decide +kernel, show ¬ (("kind" : Str) = "by") by decide +kernel, show ¬ (("kind" : Str) = "is_sound") by decide +kernel, show ¬ (("kind" : Str) = "one") by decide +kernel, show ¬ (("kind" : Str) = "other") by decide +kernel, show ¬ (("kind" : Str) = "later") by decide +kernel, show ¬ (("_told" : Str) = "kind") by decide +kernel, show ¬ (("_told" : Str) = "tool") by decide +kernel, show ¬ (("_told" : Str) = "moment") by decide +kernel, show ¬ (("_told" : Str) = "by") by decide +kernel, show ¬ (("_told" : Str) = "is_sound") by decide +kernel, show ¬ (("_told" : Str) = "one") by decide +kernel, show ¬ (("_told" : Str) = "other") by decide +kernel, show ¬ (("_told" : Str) = "later") by decide +kernel, show ¬ (("tool" : Str) = "kind") by decide +kernel, show ¬ (("tool" : Str) = "_told") by decide +kernel, show ¬ (("tool" : Str) = "moment") by decide +kernel, show ¬ (("tool" : Str) = "by") by decide +kernel, show ¬ (("tool" : Str) = "is_sound") by decide +kernel, show ¬ (("tool" : Str) = "one") by decide +kernel, show ¬ (("tool" : Str) = "other") by decide +kernel, show ¬ (("tool" : Str) = "later") by decide +kernel, show ¬ (("moment" : Str) = "kind") by decide +kernel, show ¬ (("moment" : Str) = "_told") by decide +kernel, show ¬ (("moment" : Str) = "tool") by decide +kernel, show ¬ (("moment" : Str) = "by") by decide +kernel, show ¬ (("moment" : Str) = "is_sound") by decide +kernel, show ¬ (("moment" : Str) = "one") by decide +kernel, show ¬ (("moment" : Str) = "other") by decide +kernel, show ¬ (("moment" : Str) = "later") by decide +kernel, show ¬ (("by" : Str) = "kind") by decide +kernel, show ¬ (("by" : Str) = "_told") by decide +kernel, show ¬ (("by" : Str) = "tool") by decide +kernel, show ¬ (("by" : Str) = "moment") by decide +kernel, show ¬ (("by" : Str) = "is_sound") by decide +kernel, show ¬ (("by" : Str) = "one") by decide +kernel, show ¬ (("by" : Str) = "other") by decide +kernel, show ¬ (("by" : Str) = "later") by decide +kernel, show ¬ (("is_sound" : Str) = "kind") by decide +kernel, show ¬ (("is_sound" : Str) = "_told") by decide +kernel, show ¬ (("is_sound" : Str) = "tool") by decide +kernel, show ¬ (("is_sound" : Str) = "moment") by decide +kernel, show ¬ (("is_sound" : Str) = "by") by decide +kernel, show ¬ (("is_sound" : Str) = "one") by decide +kernel, show ¬ (("is_sound" : Str) = "other") by decide +kernel, show ¬ (("is_sound" : Str) = "later") by decide +kernel, show ¬ (("one" : Str) = "kind") by decide +kernel, show ¬ (("one" : Str) = "_told") by decide +kernel, show ¬ (("one" : Str) = "tool") by decide +kernel, show ¬ (("one" : Str) = "moment") by decide +kernel, show ¬ (("one" : Str) = "by") by decide +kernel, show ¬ (("one" : Str) = "is_sound") by decide +kernel, show ¬ (("one" : Str) = "other") by decide +kernel, show ¬ (("one" : Str) = "later") by decide +kernel, show ¬ (("other" : Str) = "kind") by decide +kernel, show ¬ (("other" : Str) = "_told") by decide +kernel, show ¬ (("other" : Str) = "tool") by decide +kernel, show ¬ (("other" : Str) = "moment") by decide +kernel, show ¬ (("other" : Str) = "by") by decide +kernel, show ¬ (("other" : Str) = "is_sound") by decide +kernel, show ¬ (("other" : Str) = "one") by decide +kernel, show ¬ (("other" : Str) = "later") by decide +kernel, show ¬ (("later" : Str) = "kind") by decide +kernel, show ¬ (("later" : Str) = "_told") by decide +kernel, show ¬ (("later" : Str) = "tool") by decide +kernel, show ¬ (("later" : Str) = "moment") by decide +kernel, show ¬ (("later" : Str) = "by") by decide +kernel, show ¬ (("later" : Str) = "is_sound") by decide +kernel, show ¬ (("later" : Str) = "one") by decide +kernel, show ¬ (("later" : Str) = "other") by decide +kernel, if_true, if_false]
      · simp only [lookup_putF, show ¬ (("kind" : Str) = "_told") by decide +kernel, show ¬ (("kind" : Str) = "tool") by decide +kernel, show ¬ (("kind" : Str) = "moment") by decide +kernel, show ¬ (("kind" : Str) = "by") by decide +kernel, show ¬ (("kind" : Str) = "is_sound") by decide +kernel, show ¬ (("kind" : Str) = "one") by decide +kernel, show ¬ (("kind" : Str) = "other") by decide +kernel, show ¬ (("kind" : Str) = "later") by decide +kernel, show ¬ (("_told" : Str) = "kind") by decide +kernel, show ¬ (("_told" : Str) = "tool") by decide +kernel, show ¬ (("_told" : Str) = "moment") by decide +kernel, show ¬ (("_told" : Str) = "by") by decide +kernel, show ¬ (("_told" : Str) = "is_sound") by decide +kernel, show ¬ (("_told" : Str) = "one") by decide +kernel, show ¬ (("_told" : Str) = "other") by decide +kernel, show ¬ (("_told" : Str) = "later") by decide +kernel, show ¬ (("tool" : Str) = "kind") by decide +kernel, show ¬ (("tool" : Str) = "_told") by decide +kernel, show ¬ (("tool" : Str) = "moment") by decide +kernel, show ¬ (("tool" : Str) = "by") by decide +kernel, show ¬ (("tool" : Str) = "is_sound") by decide +kernel, show ¬ (("tool" : Str) = "one") by decide +kernel, show ¬ (("tool" : Str) = "other") by decide +kernel, show ¬ (("tool" : Str) = "later") by decide +kernel, show ¬ (("moment" : Str) = "kind") by decide +kernel, show ¬ (("moment" : Str) = "_told") by decide +kernel, show ¬ (("moment" : Str) = "tool") by decide +kernel, show ¬ (("moment" : Str) = "by") by decide +kernel, show ¬ (("moment" : Str) = "is_sound") by decide +kernel, show ¬ (("moment" : Str) = "one") by decide +kernel, show ¬ (("moment" : Str) = "other") by decide +kernel, show ¬ (("moment" : Str) = "later") by decide +kernel, show ¬ (("by" : Str) = "kind") by decide +kernel, show ¬ (("by" : Str) = "_told") by decide +kernel, show ¬ (("by" : Str) = "tool") by decide +kernel, show ¬ (("by" : Str) = "moment") by decide +kernel, show ¬ (("by" : Str) = "is_sound") by decide +kernel, show ¬ (("by" : Str) = "one") by decide +kernel, show ¬ (("by" : Str) = "other") by decide +kernel, show ¬ (("by" : Str) = "later") by decide +kernel, show ¬ (("is_sound" : Str) = "kind") by decide +kernel, show ¬ (("is_sound" : Str) = "_told") by decide +kernel, show ¬ (("is_sound" : Str) = "tool") by decide +kernel, show ¬ (("is_sound" : Str) = "moment") by decide +kernel, show ¬ (("is_sound" : Str) = "by") by decide +kernel, show ¬ (("is_sound" : Str) = "one") by decide +kernel, show ¬ (("is_sound" : Str) = "other") by decide +kernel, show ¬ (("is_sound" : Str) = "later") by decide +kernel, show ¬ (("one" : Str) = "kind") by decide +kernel, show ¬ (("one" : Str) = "_told") by decide +kernel, show ¬ (("one" : Str) = "tool") by decide +kernel, show ¬ (("one" : Str) = "moment") by decide +kernel, show ¬ (("one" : Str) = "by") by decide +kernel, show ¬ (("one" : Str) = "is_sound") by decide +kernel, show ¬ (("one" : Str) = "other") by decide +kernel, show ¬ (("one" : Str) = "later") by decide +kernel, show ¬ (("other" : Str) = "kind") by decide +kernel, show ¬ (("other" : Str) = "_told") by decide +kernel, show ¬ (("other" : Str) = "tool") by decide +kernel, show ¬ (("other" : Str) = "moment") by decide +kernel, show ¬ (("other" : Str) = "by") by decide +kernel, show ¬ (("other" : Str) = "is_sound") by decide +kernel, show ¬ (("other" : Str) = "one") by decide +kernel, show ¬ (("other" : Str) = "later") by decide +kernel, show ¬ (("later" : Str) = "kind") by decide +kernel, show ¬ (("later" : Str) = "_told") by decide +kernel, show ¬ (("later" : Str) = "tool") by decide +kernel, show ¬ (("later" : Str) = "moment") by decide +kernel, show ¬ (("later" : Str) = "by") by decide +kernel, show ¬ (("later" : Str) = "is_sound") by decide +kernel, show ¬ (("later" : Str) = "one") by decide +kernel, show ¬ (("later" : Str) = "other") by decide +kernel, if_true, if_false]
      · repeat rw [upd_ne ntp]
        exact etp
      · rw [attrs_found]
        simp only [List.zip_cons_cons, List.zip_nil_right, List.forall_mem_cons]
        refine ⟨(by simp only [lookup_putF, show ¬ (("kind" : Str) = "_told") by decide +kernel, show ¬ (("kind" : Str) = "tool") by decide +kernel, show ¬ (("kind" : Str) = "moment") by decide +kernel, show ¬ (("kind" : Str) = "by") by decide +kernel, show ¬ (("kind" : Str) = "is_sound") by decide +kernel, show ¬ (("kind" : Str) = "one") by decide +kernel, show ¬ (("kind" : Str) = "other") by decide +kernel, show ¬ (("kind" : Str) = "later") by decide +kernel, show ¬ (("_told" : Str) = "kind") by decide +kernel, show ¬ (("_told" : Str) = "tool") by decide +kernel, show ¬ (("_told" : Str) = "moment") by decide +kernel, show ¬ (("_told" : Str) = "by") by decide +kernel, show ¬ (("_told" : Str) = "is_sound") by decide +kernel, show ¬ (("_told" : Str) = "one") by decide +kernel, show ¬ (("_told" : Str) = "other") by decide +kernel, show ¬ (("_told" : Str) = "later") by decide +kernel, show ¬ (("tool" : Str) = "kind") by decide +kernel, show ¬ (("tool" : Str) = "_told") by decide +kernel, show ¬ (("tool" : Str) = "moment") by decide +kernel, show ¬ (("tool" : Str) = "by") by decide +kernel, show ¬ (("tool" : Str) = "is_sound") by decide +kernel, show ¬ (("tool" : Str) = "one") by decide +kernel, show ¬ (("tool" : Str) = "other") by decide +kernel, show ¬ (("tool" : Str) = "later") by decide +kernel, show ¬ (("moment" : Str) = "kind") by decide +kernel, show ¬ (("moment" : Str) = "_told") by decide +kernel, show ¬ (("moment" : Str) = "tool") by decide +kernel, show ¬ (("moment" : Str) = "by") by decide +kernel, show ¬ (("moment" : Str) = "is_sound") by decide +kernel, show ¬ (("moment" : Str) = "one") by decide +kernel, show ¬ (("moment" : Str) = "other") by decide +kernel, show ¬ (("moment" : Str) = "later") by decide +kernel, show ¬ (("by" : Str) = "kind") by decide +kernel, show ¬ (("by" : Str) = "_told") by decide +kernel, show ¬ (("by" : Str) = "tool") by decide +kernel, show ¬ (("by" : Str) = "moment") by decide +kernel, show ¬ (("by" : Str) = "is_sound") by decide +kernel, show ¬ (("by" : Str) = "one") by decide +kernel, show ¬ (("by" : Str) = "other") by decide +kernel, show ¬ (("by" : Str) = "later") by decide +kernel, show ¬ (("is_sound" : Str) = "kind") by decide +kernel, show ¬ (("is_sound" : Str) = "_told") by decide +kernel, show ¬ (("is_sound" : Str) = "tool") by decide +kernel, show ¬ (("is_sound" : Str) = "moment") by decide +kernel, show ¬ (("is_sound" : Str) = "by") by decide +kernel, show ¬ (("is_sound" : Str) = "one") by decide +kernel, show ¬ (("is_sound" : Str) = "other") by decide +kernel, show ¬ (("is_sound" : Str) = "later") by decide +kernel, show ¬ (("one" : Str) = "kind") by decide +kernel, show ¬ (("one" : Str) = "_told") by decide +kernel, show ¬ (("one" : Str) = "tool") by decide +kernel, show ¬ (("one" : Str) = "moment") by decide +kernel, show ¬ (("one" : Str) = "by") by decide +kernel, show ¬ (("one" : Str) = "is_sound") by decide +kernel, show ¬ (("one" : Str) = "other") by decide +kernel, show ¬ (("one" : Str) = "later") by decide +kernel, show ¬ (("other" : Str) = "kind") by decide +kernel, show ¬ (("other" : Str) = "_told") by decide +kernel, show ¬ (("other" : Str) = "tool") by decide +kernel, show ¬ (("other" : Str) = "moment") by decide +kernel, show ¬ (("other" : Str) = "by") by decide +kernel, show ¬ (("other" : Str) = "is_sound") by decide +kernel, show ¬ (("other" : Str) = "one") by decide +kernel, show ¬ (("other" : Str) = "later") by decide +kernel, show ¬ (("later" : Str) = "kind") by decide +kernel, show ¬ (("later" : Str) = "_told") by decide +kernel, show ¬ (("later" : Str) = "tool") by decide +kernel, show ¬ (("later" : Str) = "moment") by decide +kernel, show ¬ (("later" : Str) = "by") by decide +kernel, show ¬ (("later" : Str) = "is_sound") by decide +kernel, show ¬ (("later" : Str) = "one") by decide +kernel, show ¬ (("later" : Str) = "other") by decide +kernel, if_true, if_false]), (by simp only [lookup_putF, show ¬ (("kind" : Str) = "_told") by decide +kernel, show ¬ (("kind" : Str) = "tool") by decide +kernel, show ¬ (("kind" : Str) = "moment") by decide +kernel, show ¬ (("kind" : Str) = "by") by decide +kernel, show ¬ (("kind" : Str) = "is_sound") by decide +kernel, show ¬ (("kind" : Str) = "one") by decide +kernel, show ¬ (("kind" : Str) = "other") by decide +kernel, show ¬ (("kind" : Str) = "later") by decide +kernel, show ¬ (("_told" : Str) = "kind") by decide +kernel, show ¬ (("_told" : Str) = "tool") by decide +kernel, show ¬ (("_told" : Str) = "moment") by decide +kernel, show ¬ (("_told" : Str) = "by") by decide +kernel, show ¬ (("_told" : Str) = "is_sound") by decide +kernel, show ¬ (("_told" : Str) = "one") by decide +kernel, show ¬ (("_told" : Str) = "other") by decide +kernel, show ¬ (("_told" : Str) = "later") by decide +kernel, show ¬ (("tool" : Str) = "kind") by decide +kernel, show ¬ (("tool" : Str) = "_told") by decide +kernel, show ¬ (("tool" : Str) = "moment") by decide +kernel, show ¬ (("tool" : Str) = "by") by decide +kernel, show ¬ (("tool" : Str) = "is_sound") by decide +kernel, show ¬ (("tool" : Str) = "one") by decide +kernel, show ¬ (("tool" : Str) = "other") by decide +kernel, show ¬ (("tool" : Str) = "later") by decide +kernel, show ¬ (("moment" : Str) = "kind") by decide +kernel, show ¬ (("moment" : Str) = "_told") by decide +kernel, show ¬ (("moment" : Str) = "tool") by decide +kernel, show ¬ (("moment" : Str) = "by") by decide +kernel, show ¬ (("moment" : Str) = "is_sound") by decide +kernel, show ¬ (("moment" : Str) = "one") by decide +kernel, show ¬ (("moment" : Str) = "other") by decide +kernel, show ¬ (("moment" : Str) = "later") by decide +kernel, show ¬ (("by" : Str) = "kind") by decide +kernel, show ¬ (("by" : Str) = "_told") by decide +kernel, show ¬ (("by" : Str) = "tool") by decide +kernel, show ¬ (("by" : Str) = "moment") by decide +kernel, show ¬ (("by" : Str) = "is_sound") by decide +kernel, show ¬ (("by" : Str) = "one") by decide +kernel, show ¬ (("by" : Str) = "other") by decide +kernel, show ¬ (("by" : Str) = "later") by decide +kernel, show ¬ (("is_sound" : Str) = "kind") by decide +kernel, show ¬ (("is_sound" : Str) = "_told") by decide +kernel, show ¬ (("is_sound" : Str) = "tool") by decide +kernel, show ¬ (("is_sound" : Str) = "moment") by decide +kernel, show ¬ (("is_sound" : Str) = "by") by decide +kernel, show ¬ (("is_sound" : Str) = "one") by decide +kernel, show ¬ (("is_sound" : Str) = "other") by decide +kernel, show ¬ (("is_sound" : Str) = "later") by decide +kernel, show ¬ (("one" : Str) = "kind") by decide +kernel, show ¬ (("one" : Str) = "_told") by decide +kernel, show ¬ (("one" : Str) = "tool") by decide +kernel, show ¬ (("one" : Str) = "moment") by decide +kernel, show ¬ (("one" : Str) = "by") by decide +kernel, show ¬ (("one" : Str) = "is_sound") by decide +kernel, show ¬ (("one" : Str) = "other") by decide +kernel, show ¬ (("one" : Str) = "later") by decide +kernel, show ¬ (("other" : Str) = "kind") by decide +kernel, show ¬ (("other" : Str) = "_told") by decide +kernel, show ¬ (("other" : Str) = "tool") by decide +kernel, show ¬ (("other" : Str) = "moment") by decide +kernel, show ¬ (("other" : Str) = "by") by decide +kernel, show ¬ (("other" : Str) = "is_sound") by decide +kernel, show ¬ (("other" : Str) = "one") by decide +kernel, show ¬ (("other" : Str) = "later") by decide +kernel, show ¬ (("later" : Str) = "kind") by decide +kernel, show ¬ (("later" : Str) = "_told") by decide +kernel, show ¬ (("later" : Str) = "tool") by decide +kernel, show ¬ (("later" : Str) = "moment") by decide +kernel, show ¬ (("later" : Str) = "by") by decide +kernel, show ¬ (("later" : Str) = "is_sound") by decide +kernel, show ¬ (("later" : Str) = "one") by decide +kernel, show ¬ (("later" : Str) = "other") by decide +kernel, if_true, if_false]), (by simp only [lookup_putF, show ¬ (("kind" : Str) = "_told") by decide +kernel, show ¬ (("kind" : Str) = "tool") by decide +kernel, show ¬ (("kind" : Str) = "moment") by decide +kernel, show ¬ (("kind" : Str) = "by") by decide +kernel, show ¬ (("kind" : Str) = "is_sound") by decide +kernel, show ¬ (("kind" : Str) = "one") by decide +kernel, show ¬ (("kind" : Str) = "other") by decide +kernel, show ¬ (("kind" : Str) = "later") by decide +kernel, show ¬ (("_told" : Str) = "kind") by decide +kernel, show ¬ (("_told" : Str) = "tool") by decide +kernel, show ¬ (("_told" : Str) = "moment") by decide +kernel, show ¬ (("_told" : Str) = "by") by decide +kernel, show ¬ (("_told" : Str) = "is_sound") by decide +kernel, show ¬ (("_told" : Str) = "one") by decide +kernel, show ¬ (("_told" : Str) = "other") by decide +kernel, show ¬ (("_told" : Str) = "later") by decide +kernel, show ¬ (("tool" : Str) = "kind") by decide +kernel, show ¬ (("tool" : Str) = "_told") by decide +kernel, show ¬ (("tool" : Str) = "moment") by decide +kernel, show ¬ (("tool" : Str) = "by") by decide +kernel, show ¬ (("tool" : Str) = "is_sound") by decide +kernel, show ¬ (("tool" : Str) = "one") by decide +kernel, show ¬ (("tool" : Str) = "other") by decide +kernel, show ¬ (("tool" : Str) = "later") by decide +kernel, show ¬ (("moment" : Str) = "kind") by decide +kernel, show ¬ (("moment" : Str) = "_told") by decide +kernel, show ¬ (("moment" : Str) = "tool") by decide +kernel, show ¬ (("moment" : Str) = "by") by decide +kernel, show ¬ (("moment" : Str) = "is_sound") by decide +kernel, show ¬ (("moment" : Str) = "one") by decide +kernel, show ¬ (("moment" : Str) = "other") by decide +kernel, show ¬ (("moment" : Str) = "later") by decide +kernel, show ¬ (("by" : Str) = "kind") by decide +kernel, show ¬ (("by" : Str) = "_told") by decide +kernel, show ¬ (("by" : Str) = "tool") by decide +kernel, show ¬ (("by" : Str) = "moment") by decide +kernel, show ¬ (("by" : Str) = "is_sound") by decide +kernel, show ¬ (("by" : Str) = "one") by decide +kernel, show ¬ (("by" : Str) = "other") by decide +kernel, show ¬ (("by" : Str) = "later") by decide +kernel, show ¬ (("is_sound" : Str) = "kind") by decide +kernel, show ¬ (("is_sound" : Str) = "_told") by decide +kernel, show ¬ (("is_sound" : Str) = "tool") by decide +kernel, show ¬ (("is_sound" : Str) = "moment") by decide +kernel, show ¬ (("is_sound" : Str) = "by") by decide +kernel, show ¬ (("is_sound" : Str) = "one") by decide +kernel, show ¬ (("is_sound" : Str) = "other") by decide +kernel, show ¬ (("is_sound" : Str) = "later") by decide +kernel, show ¬ (("one" : Str) = "kind") by decide +kernel, show ¬ (("one" : Str) = "_told") by decide +kernel, show ¬ (("one" : Str) = "tool") by decide +kernel, show ¬ (("one" : Str) = "moment") by decide +kernel, show ¬ (("one" : Str) = "by") by decide +kernel, show ¬ (("one" : Str) = "is_sound") by decide +kernel, show ¬ (("one" : Str) = "other") by decide +kernel, show ¬ (("one" : Str) = "later") by decide +kernel, show ¬ (("other" : Str) = "kind") by decide +kernel, show ¬ (("other" : Str) = "_told") by decide +kernel, show ¬ (("other" : Str) = "tool") by decide +kernel, show ¬ (("other" : Str) = "moment") by decide +kernel, show ¬ (("other" : Str) = "by") by decide +kernel, show ¬ (("other" : Str) = "is_sound") by decide +kernel, show ¬ (("other" : Str) = "one") by decide +kernel, show ¬ (("other" : Str) = "later") by decide +kernel, show ¬ (("later" : Str) = "kind") by decide +kernel, show ¬ (("later" : Str) = "_told") by decide +kernel, show ¬ (("later" : Str) = "tool") by decide +kernel, show ¬ (("later" : Str) = "moment") by decide +kernel, show ¬ (("later" : Str) = "by") by decide +kernel, show ¬ (("later" : Str) = "is_sound") by decide +kernel, show ¬ (("later" : Str) = "one") by decide +kernel, show ¬ (("later" : Str) = "other") by decide +kernel, if_true, if_false]), fun _ h => nomatch h⟩
abbrev sTrusted : Stmt := inClass (topS 39) 0
theorem scTrusted : FnScope ["self", "tool"] ["self", "tool"] (defScope sTrusted) := ⟨rfl, rfl, rfl, by decide +kernel, rfl, by decide +kernel, by decide +kernel⟩
theorem ok_Trusted {CN CM CS C f fK : Addr} {fd fdK : FuncData} (F : Fun K "__init__" "Trusted.__init__" sTrusted f fd) (T : RowC K C ["_told", "kind", "tool"]) (FK : Fun K "checked" "checked" sChecked fK fdK) (bK : Binds K fdK ["kind", "told"] []) (gK : mg "checked" = some (.ref fK))
    (GK : FnOk P w K mg base (L2.CX P w) 4 fK fdK ["kind", "told"] (spChecked CN CM CS)) : FnOk P w K mg base (L2.CX P w) 5 f fd ["self", "tool"] (spRow CN CM CS C "trusted") := by
  refine F.okX scTrusted (fun vs H Q E h => ?_) (fun cdv A outer s H vs Q E hr h => ?_)
  · obtain ⟨x, dx, xs, rfl, _, hl, _⟩ := h
    show xs.length + 1 = 2
    have : (formsOf "trusted").length = 1 := by decide +kernel
    omega
  · obtain ⟨x, dx, xs, rfl, hx, hl, hg, qy, qn⟩ := h
    have hkin : ("trusted" : Str) ∈ kinds := by decide +kernel
    have hl4 : (formsOf "trusted").length = 1 := by decide +kernel
    obtain ⟨v0, rfl⟩ : ∃ v0, xs = [v0] := by
      rw [hl4] at hl
      match xs, hl with
      | [v0], _ => exact ⟨_, rfl⟩
    have no := T.no
    simp only [List.forall_mem_cons] at no
    obtain ⟨n0, n1, n2, _⟩ := no
    refine ⟨_, pss_cons (ps_fld (pv 0) (pe_call GK hr (by rfl) gK FK.kp bK .nil (passes_call (takes_of rfl rfl rfl rfl) (fun _ _ _ _ h => h)) (pa_cons pe_str (pa_cons (pe_tup (pa_cons (pv 1) pa_nil)) pa_nil))) rfl)
      (pss_cons (ps_fld (pv 0) pe_str rfl)
      (pss_one (ps_fld (pv 0) (pv 1) rfl))), ?_⟩
    refine ⟨_, rfl, by show 1 ≤ sizeLine; decide, fun tp htp => ?_⟩
    have s1 := same_upd0 (o := .tup [v0]) htp
    refine ⟨"trusted", tp, [v0], rfl, hkin, upd_same, hl, (fun y hy => (hg y hy).elim fun T h => ⟨T, h.same s1⟩), fun gd H2 s2 => ?_, fun C' fl v g d H' s e => qn C' fl v g d H' (s1.trans s) e⟩
    have hx2 := s2 _ _ (s1 _ _ hx)
    have s12 := s1.trans s2
    refine ⟨_, rfl, x, C, dx, [], rfl, hx2, T.cl, n0, by show 0 < 1000; decide, ?_⟩
    refine ⟨_, rfl, x, C, dx, _, rfl, upd_same, T.cl, n1, Nat.lt_of_le_of_lt (lenC (Nat.le_refl 0)) (by decide), ?_⟩
    refine ⟨_, rfl, _, rfl, x, C, dx, _, rfl, upd_same, T.cl, n2, Nat.lt_of_le_of_lt (lenC (lenC (Nat.le_refl 0))) (by decide), ?_⟩
    refine qy gd _ _ (fun c o nc e => ?_) upd_same ?_
    · rw [upd_ne nc, upd_ne nc, upd_ne nc]
      exact s12 c o e
    · have ntp : tp ≠ x := fun z => by rw [z, hx] at htp; cases htp
      have etp := s2 _ _ (show (upd H tp (.tup _)) tp = _ from upd_same)
      refine ⟨?_, ⟨tp, ?_, ?_⟩, ?_, (by repeat (first | exact NoM.nil | refine NoM.put ?_ (by decide +kernel)))⟩
      · simp only [lookup_putF, show ¬ (("kind" : Str) = "_told") by decide +kernel, show ¬ (("kind" : Str) = "tool") by decide +kernel, show ¬ (("kind" : Str) = "moment") by decide +kernel, show ¬ (("kind" : Str) = "by") by decide +kernel, show ¬ (("kind" : Str) = "is_sound") by decide +kernel, show ¬ (("kind" : Str) = "one") by decide +kernel, show ¬ (("kind" : Str) = "other") by decide +kernel, show ¬ (("kind" : Str) = "later") by decide +kernel, show ¬ (("_told" : Str) = "kind") by decide +kernel, show ¬ (("_told" : Str) = "tool") by decide +kernel, show ¬ (("_told" : Str) = "moment") by decide +kernel, show ¬ (("_told" : Str) = "by") by decide +kernel, show ¬ (("_told" : Str) = "is_sound") by decide +kernel, show ¬ (("_told" : Str) = "one") by decide +kernel, show ¬ (("_told" : Str) = "other") by decide +kernel, show ¬ (("_told" : Str) = "later") by decide +kernel, show ¬ (("tool" : Str) = "kind") by decide +kernel, show ¬ (("tool" : Str) = "_told") by decide +kernel, show ¬ (("tool" : Str) = "moment") by decide +kernel, show ¬ (("tool" : Str) = "by") by decide +kernel, show ¬ (("tool" : Str) = "is_sound") by decide +kernel, show ¬ (("tool" : Str) = "one") by decide +kernel, show ¬ (("tool" : Str) = "other") by decide +kernel, show ¬ (("tool" : Str) = "later") by decide +kernel, show ¬ (("moment" : Str) = "kind") by decide +kernel, show ¬ (("moment" : Str) = "_told") by decide +kernel, show ¬ (("moment" : Str) = "tool") by decide +kernel, show ¬ (("moment" : Str) = "by") by decide +kernel, show ¬ (("moment" : Str) = "is_sound") by decide +kernel, show ¬ (("moment" : Str) = "one") by decide +kernel, show ¬ (("moment" : Str) = "other") by decide +kernel, show ¬ (("moment" : Str) = "later") by decide +kernel, show ¬ (("by" : Str) = "kind") by decide +kernel, show ¬ (("by" : Str) = "_told") by decide +kernel, show ¬ (("by" : Str) = "tool") by decide +kernel, show ¬ (("by" : Str) = "moment") by decide +kernel, show ¬ (("by" : Str) = "is_sound") by decide +kernel, show ¬ (("by" : Str) = "one") by decide +kernel, show ¬ (("by" : Str) = "other") by decide +kernel, show ¬ (("by" : Str) = "later") by decide +kernel, show ¬ (("is_sound" : Str) = "kind") by decide +kernel, show ¬ (("is_sound" : Str) = "_told") by decide +kernel, show ¬ (("is_sound" : Str) = "tool") by decide +kernel, show ¬ (("is_sound" : Str) = "moment") by decide +kernel, show ¬ (("is_sound" : Str) = "by") by decide +kernel, show ¬ (("is_sound" : Str) = "one") by decide +kernel, show ¬ (("is_sound" : Str) = "other") by decide +kernel, show ¬ (("is_sound" : Str) = "later") by decide +kernel, show ¬ (("one" : Str) = "kind") by decide +kernel, show ¬ (("one" : Str) = "_told") by decide +kernel, show ¬ (("one" : Str) = "tool") by decide +kernel, show ¬ (("one" : Str) = "moment") by decide +kernel, show ¬ (("one" : Str) = "by") by decide +kernel, show ¬ (("one" : Str) = "is_sound") by decide +kernel, show ¬ (("one" : Str) = "other") by decide +kernel, show ¬ (("one" : Str) = "later") by decide +kernel, show ¬ (("other" : Str) = "kind") by decide +kernel, show ¬ (("other" : Str) = "_told") by decide +kernel, show ¬ (("other" : Str) = "tool") by decide +kernel, show ¬ (("other" : Str) = "moment") by decide +kernel, show ¬ (("other" : Str) = "by") by decide +kernel, show ¬ (("other" : Str) = "is_sound") by decide +kernel, show ¬ (("other" : Str) = "one") by decide +kernel, show ¬ (("other" : Str) = "later") by decide +kernel, show ¬ (("later" : Str) = "kind") by decide +kernel, show ¬ (("later" : Str) = "_told") by decide +kernel, show ¬ (("later" : Str) = "tool") by decide +kernel, show ¬ (("later" : Str) = "moment") by decide +kernel, show ¬ (("later" : Str) = "by") by decide +kernel, show ¬ (("later" : Str) = "is_sound") by decide +kernel, show ¬ (("later" : Str) = "one") by decide +kernel, show ¬ (("later" : Str) = "other") by decide +kernel, if_true, if_false]
      · simp only [lookup_putF, show ¬ (("kind" : Str) = "_told") by decide +kernel, show ¬ (("kind" : Str) = "tool") by decide +kernel, show ¬ (("kind" : Str) = "moment") by decide +kernel, show ¬ (("kind" : Str) = "by") by decide +kernel, show ¬ (("kind" : Str) = "is_sound") by decide +kernel, show ¬ (("kind" : Str) = "one") by decide +kernel, show ¬ (("kind" : Str) = "other") by decide +kernel, show ¬ (("kind" : Str) = "later") by decide +kernel, show ¬ (("_told" : Str) = "kind") by decide +kernel, show ¬ (("_told" : Str) = "tool") by decide +kernel, show ¬ (("_told" : Str) = "moment") by decide +kernel, show ¬ (("_told" : Str) = "by") by decide +kernel, show ¬ (("_told" : Str) = "is_sound") by decide +kernel, show ¬ (("_told" : Str) = "one") by decide +kernel, show ¬ (("_told" : Str) = "other") by decide +kernel, show ¬ (("_told" : Str) = "later") by decide +kernel, show ¬ (("tool" : Str) = "kind") by decide +kernel, show ¬ (("tool" : Str) = "_told") by decide +kernel, show ¬ (("tool" : Str) = "moment") by decide +kernel, show ¬ (("tool" : Str) = "by") by decide +kernel, show ¬ (("tool" : Str) = "is_sound") by decide +kernel, show ¬ (("tool" : Str) = "one") by decide +kernel, show ¬ (("tool" : Str) = "other") by decide +kernel, show ¬ (("tool" : Str) = "later") by decide +kernel, show ¬ (("moment" : Str) = "kind") by decide +kernel, show ¬ (("moment" : Str) = "_told") by decide +kernel, show ¬ (("moment" : Str) = "tool") by decide +kernel, show ¬ (("moment" : Str) = "by") by decide +kernel, show ¬ (("moment" : Str) = "is_sound") by decide +kernel, show ¬ (("moment" : Str) = "one") by decide +kernel, show ¬ (("moment" : Str) = "other") by decide +kernel, show ¬ (("moment" : Str) = "later") by decide +kernel, show ¬ (("by" : Str) = "kind") by decide +kernel, show ¬ (("by" : Str) = "_told") by decide +kernel, show ¬ (("by" : Str) = "tool") by decide +kernel, show ¬ (("by" : Str) = "moment") by decide +kernel, show ¬ (("by" : Str) = "is_sound") by decide +kernel, show ¬ (("by" : Str) = "one") by decide +kernel, show ¬ (("by" : Str) = "other") by decide +kernel, show ¬ (("by" : Str) = "later") by decide +kernel, show ¬ (("is_sound" : Str) = "kind") by decide +kernel, show ¬ (("is_sound" : Str) = "_told") by decide +kernel, show ¬ (("is_sound" : Str) = "tool") by decide +kernel, show ¬ (("is_sound" : Str) = "moment") by decide +kernel, show ¬ (("is_sound" : Str) = "by") by decide +kernel, show ¬ (("is_sound" : Str) = "one") by decide +kernel, show ¬ (("is_sound" : Str) = "other") by decide +kernel, show ¬ (("is_sound" : Str) = "later") by decide +kernel, show ¬ (("one" : Str) = "kind") by decide +kernel, show ¬ (("one" : Str) = "_told") by decide +kernel, show ¬ (("one" : Str) = "tool") by decide +kernel, show ¬ (("one" : Str) = "moment") by decide +kernel, show ¬ (("one" : Str) = "by") by decide +kernel, show ¬ (("one" : Str) = "is_sound") by decide +kernel, show ¬ (("one" : Str) = "other") by decide +kernel, show ¬ (("one" : Str) = "later") by decide +kernel, show ¬ (("other" : Str) = "kind") by decide +kernel, show ¬ (("other" : Str) = "_told") by decide +kernel, show ¬ (("other" : Str) = "tool") by decide +kernel, show ¬ (("other" : Str) = "moment") by decide +kernel, show ¬ (("other" : Str) = "by") by decide +kernel, show ¬ (("other" : Str) = "is_sound") by decide +kernel, show ¬ (("other" : Str) = "one") by decide +kernel, show ¬ (("other" : Str) = "later") by decide +kernel, show ¬ (("later" : Str) = "kind") by decide +kernel, show ¬ (("later" : Str) = "_told") by decide +kernel, show ¬ (("later" : Str) = "tool") by decide +kernel, show ¬ (("later" : Str) = "moment") by decide +kernel, show ¬ (("later" : Str) = "by") by decide +kernel, show ¬ (("later" : Str) = "is_sound") by decide +kernel, show ¬ (("later" : Str) = "one") by decide +kernel, show ¬ (("later" : Str) = "other") by decide +kernel, if_true, if_false]
      · repeat rw [upd_ne ntp]
        exact etp
      · rw [attrs_trusted]
        simp only [List.zip_cons_cons, List.zip_nil_right, List.forall_mem_cons]
        refine ⟨(by simp only [lookup_putF, show ¬ (("kind" : Str) = "_told") by decide +kernel, show ¬ (("kind" : Str) = "tool") by decide +kernel, show ¬ (("kind" : Str) = "moment") by decide +kernel, show ¬ (("kind" : Str) = "by") by decide +kernel, show ¬ (("kind" : Str) = "is_sound") by decide +kernel, show ¬ (("kind" : Str) = "one") by decide +kernel, show ¬ (("kind" : Str) = "other") by decide +kernel, show ¬ (("kind" : Str) = "later") by decide +kernel, show ¬ (("_told" : Str) = "kind") by decide +kernel, show ¬ (("_told" : Str) = "tool") by decide +kernel, show ¬ (("_told" : Str) = "moment") by decide +kernel, show ¬ (("_told" : Str) = "by") by decide +kernel, show ¬ (("_told" : Str) = "is_sound") by decide +kernel, show ¬ (("_told" : Str) = "one") by decide +kernel, show ¬ (("_told" : Str) = "other") by decide +kernel, show ¬ (("_told" : Str) = "later") by decide +kernel, show ¬ (("tool" : Str) = "kind") by decide +kernel, show ¬ (("tool" : Str) = "_told") by decide +kernel, show ¬ (("tool" : Str) = "moment") by decide +kernel, show ¬ (("tool" : Str) = "by") by decide +kernel, show ¬ (("tool" : Str) = "is_sound") by decide +kernel, show ¬ (("tool" : Str) = "one") by decide +kernel, show ¬ (("tool" : Str) = "other") by decide +kernel, show ¬ (("tool" : Str) = "later") by decide +kernel, show ¬ (("moment" : Str) = "kind") by decide +kernel, show ¬ (("moment" : Str) = "_told") by decide +kernel, show ¬ (("moment" : Str) = "tool") by decide +kernel, show ¬ (("moment" : Str) = "by") by decide +kernel, show ¬ (("moment" : Str) = "is_sound") by decide +kernel, show ¬ (("moment" : Str) = "one") by decide +kernel, show ¬ (("moment" : Str) = "other") by decide +kernel, show ¬ (("moment" : Str) = "later") by decide +kernel, show ¬ (("by" : Str) = "kind") by decide +kernel, show ¬ (("by" : Str) = "_told") by decide +kernel, show ¬ (("by" : Str) = "tool") by decide +kernel, show ¬ (("by" : Str) = "moment") by decide +kernel, show ¬ (("by" : Str) = "is_sound") by decide +kernel, show ¬ (("by" : Str) = "one") by decide +kernel, show ¬ (("by" : Str) = "other") by decide +kernel, show ¬ (("by" : Str) = "later") by decide +kernel, show ¬ (("is_sound" : Str) = "kind") by decide +kernel, show ¬ (("is_sound" : Str) = "_told") by decide +kernel, show ¬ (("is_sound" : Str) = "tool") by decide +kernel, show ¬ (("is_sound" : Str) = "moment") by decide +kernel, show ¬ (("is_sound" : Str) = "by") by decide +kernel, show ¬ (("is_sound" : Str) = "one") by decide +kernel, show ¬ (("is_sound" : Str) = "other") by decide +kernel, show ¬ (("is_sound" : Str) = "later") by decide +kernel, show ¬ (("one" : Str) = "kind") by decide +kernel, show ¬ (("one" : Str) = "_told") by decide +kernel, show ¬ (("one" : Str) = "tool") by decide +kernel, show ¬ (("one" : Str) = "moment") by decide +kernel, show ¬ (("one" : Str) = "by") by decide +kernel, show ¬ (("one" : Str) = "is_sound") by decide +kernel, show ¬ (("one" : Str) = "other") by decide +kernel, show ¬ (("one" : Str) = "later") by decide +kernel, show ¬ (("other" : Str) = "kind") by decide +kernel, show ¬ (("other" : Str) = "_told") by decide +kernel, show ¬ (("other" : Str) = "tool") by decide +kernel, show ¬ (("other" : Str) = "moment") by decide +kernel, show ¬ (("other" : Str) = "by") by decide +kernel, show ¬ (("other" : Str) = "is_sound") by decide +kernel, show ¬ (("other" : Str) = "one") by decide +kernel, show ¬ (("other" : Str) = "later") by decide +kernel, show ¬ (("later" : Str) = "kind") by decide +kernel, show ¬ (("later" : Str) = "_told") by decide +kernel, show ¬ (("later" : Str) = "tool") by decide +kernel, show ¬ (("later" : Str) = "moment") by decide +kernel, show ¬ (("later" : Str) = "by") by decide +kernel, show ¬ (("later" : Str) = "is_sound") by decide +kernel, show ¬ (("later" : Str) = "one") by decide +kernel, show ¬ (("later" : Str) = "other") by decide +kernel, if_true, if_false]), fun _ h => nomatch h⟩
abbrev sPassed : Stmt := inClass (topS 40) 0
theorem scPassed : FnScope ["self", "tool", "moment", "by"] ["self", "tool", "moment", "by"] (defScope sPassed) := ⟨rfl, rfl, rfl, by decide +kernel, rfl, by decide +kernel, by decide +kernel⟩
theorem ok_Passed {CN CM CS C f fK : Addr} {fd fdK : FuncData} (F : Fun K "__init__" "Passed.__init__" sPassed f fd) (T : RowC K C ["_told", "kind", "tool", "moment", "by"]) (FK : Fun K "checked" "checked" sChecked fK fdK) (bK : Binds K fdK ["kind", "told"] []) (gK : mg "checked" = some (.ref fK))
    (GK : FnOk P w K mg base (L2.CX P w) 4 fK fdK ["kind", "told"] (spChecked CN CM CS)) : FnOk P w K mg base (L2.CX P w) 5 f fd ["self", "tool", "moment", "by"] (spRow CN CM CS C "passed") := by
  refine F.okX scPassed (fun vs H Q E h => ?_) (fun cdv A outer s H vs Q E hr h => ?_)
  · obtain ⟨x, dx, xs, rfl, _, hl, _⟩ := h
    show xs.length + 1 = 4
    have : (formsOf "passed").length = 3 := by decide +kernel
    omega
  · obtain ⟨x, dx, xs, rfl, hx, hl, hg, qy, qn⟩ := h
    have hkin : ("passed" : Str) ∈ kinds := by decide +kernel
    have hl4 : (formsOf "passed").length = 3 := by decide +kernel
    obtain ⟨v0, v1, v2, rfl⟩ : ∃ v0 v1 v2, xs = [v0, v1, v2] := by
      rw [hl4] at hl
      match xs, hl with
      | [v0, v1, v2], _ => exact ⟨_, _, _, rfl⟩
    have no := T.no
    simp only [List.forall_mem_cons] at no
    obtain ⟨n0, n1, n2, n3, n4, _⟩ := no
    refine ⟨_, pss_cons (ps_fld (pv 0) (pe_call GK hr (by rfl) gK FK.kp bK .nil (passes_call (takes_of rfl rfl rfl rfl) (fun _ _ _ _ h => h)) (pa_cons pe_str (pa_cons (pe_tup (pa_cons (pv 1) (pa_cons (pv 2) (pa_cons (pv 3) pa_nil)))) pa_nil))) rfl)
      (pss_cons (ps_fld (pv 0) pe_str rfl)
      (pss_cons (ps_fld (pv 0) (pv 1) rfl) (pss_cons (ps_fld (pv 0) (pv 2) rfl) (pss_one (ps_fld (pv 0) (pv 3) rfl))))), ?_⟩
    refine ⟨_, rfl, _, rfl, _, rfl, by show 3 ≤ sizeLine; decide, fun tp htp => ?_⟩
    have s1 := same_upd0 (o := .tup [v0, v1, v2]) htp
    refine ⟨"passed", tp, [v0, v1, v2], rfl, hkin, upd_same, hl, (fun y hy => (hg y hy).elim fun T h => ⟨T, h.same s1⟩), fun gd H2 s2 => ?_, fun C' fl v g d H' s e => qn C' fl v g d H' (s1.trans s) e⟩
    have hx2 := s2 _ _ (s1 _ _ hx)
    have s12 := s1.trans s2
    refine ⟨_, rfl, x, C, dx, [], rfl, hx2, T.cl, n0, by show 0 < 1000; decide, ?_⟩
    refine ⟨_, rfl, x, C, dx, _, rfl, upd_same, T.cl, n1, Nat.lt_of_le_of_lt (lenC (Nat.le_refl 0)) (by decide), ?_⟩
    refine ⟨_, rfl, _, rfl, x, C, dx, _, rfl, upd_same, T.cl, n2, Nat.lt_of_le_of_lt (lenC (lenC (Nat.le_refl 0))) (by decide), ?_⟩
    refine ⟨_, rfl, _, rfl, x, C, dx, _, rfl, upd_same, T.cl, n3, Nat.lt_of_le_of_lt (lenC (lenC (lenC (Nat.le_refl 0)))) (by decide), ?_⟩
    refine ⟨_, rfl, _, rfl, x, C, dx, _, rfl, upd_same, T.cl, n4, Nat.lt_of_le_of_lt (lenC (lenC (lenC (lenC (Nat.le_refl 0))))) (by decide), ?_⟩
    refine qy gd _ _ (fun c o nc e => ?_) upd_same ?_
    · rw [upd_ne nc, upd_ne nc, upd_ne nc, upd_ne nc, upd_ne nc]
      exact s12 c o e
    · have ntp : tp ≠ x := fun z => by rw [z, hx] at htp; cases htp
      have etp := s2 _ _ (show (upd H tp (.tup _)) tp = _ from upd_same)
      refine ⟨?_, ⟨tp, ?_, ?_⟩, ?_, (by repeat (first | exact NoM.nil | refine NoM.put ?_ (by decide +kernel)))⟩
      · simp only [lookup_putF, show ¬ (("kind" : Str) = "_told") by decide +kernel, show ¬ (("kind" : Str) = "tool") by decide +kernel, show ¬ (("kind" : Str) = "moment") by decide +kernel, show ¬ (("kind" : Str) = "by") by decide +kernel, show ¬ (("kind" : Str) = "is_sound") by decide +kernel, show ¬ (("kind" : Str) = "one") by decide +kernel, show ¬ (("kind" : Str) = "other") by decide +kernel, show ¬ (("kind" : Str) = "later") by decide +kernel, show ¬ (("_told" : Str) = "kind") by decide +kernel, show ¬ (("_told" : Str) = "tool") by decide +kernel, show ¬ (("_told" : Str) = "moment") by decide +kernel, show ¬ (("_told" : Str) = "by") by decide +kernel, show ¬ (("_told" : Str) = "is_sound") by decide +kernel, show ¬ (("_told" : Str) = "one") by decide +kernel, show ¬ (("_told" : Str) = "other") by decide +kernel, show ¬ (("_told" : Str) = "later") by decide +kernel, show ¬ (("tool" : Str) = "kind") by decide +kernel, show ¬ (("tool" : Str) = "_told") by decide +kernel, show ¬ (("tool" : Str) = "moment") by decide +kernel, show ¬ (("tool" : Str) = "by") by decide +kernel, show ¬ (("tool" : Str) = "is_sound") by decide +kernel, show ¬ (("tool" : Str) = "one") by decide +kernel, show ¬ (("tool" : Str) = "other") by decide +kernel, show ¬ (("tool" : Str) = "later") by decide +kernel, show ¬ (("moment" : Str) = "kind") by decide +kernel, show ¬ (("moment" : Str) = "_told") by decide +kernel, show ¬ (("moment" : Str) = "tool") by decide +kernel, show ¬ (("moment" : Str) = "by") by decide +kernel, show ¬ (("moment" : Str) = "is_sound") by decide +kernel, show ¬ (("moment" : Str) = "one") by decide +kernel, show ¬ (("moment" : Str) = "other") by decide +kernel, show ¬ (("moment" : Str) = "later") by decide +kernel, show ¬ (("by" : Str) = "kind") by decide +kernel, show ¬ (("by" : Str) = "_told") by decide +kernel, show ¬ (("by" : Str) = "tool") by decide +kernel, show ¬ (("by" : Str) = "moment") by decide +kernel, show ¬ (("by" : Str) = "is_sound") by decide +kernel, show ¬ (("by" : Str) = "one") by decide +kernel, show ¬ (("by" : Str) = "other") by decide +kernel, show ¬ (("by" : Str) = "later") by decide +kernel, show ¬ (("is_sound" : Str) = "kind") by decide +kernel, show ¬ (("is_sound" : Str) = "_told") by decide +kernel, show ¬ (("is_sound" : Str) = "tool") by decide +kernel, show ¬ (("is_sound" : Str) = "moment") by decide +kernel, show ¬ (("is_sound" : Str) = "by") by decide +kernel, show ¬ (("is_sound" : Str) = "one") by decide +kernel, show ¬ (("is_sound" : Str) = "other") by decide +kernel, show ¬ (("is_sound" : Str) = "later") by decide +kernel, show ¬ (("one" : Str) = "kind") by decide +kernel, show ¬ (("one" : Str) = "_told") by decide +kernel, show ¬ (("one" : Str) = "tool") by decide +kernel, show ¬ (("one" : Str) = "moment") by decide +kernel, show ¬ (("one" : Str) = "by") by decide +kernel, show ¬ (("one" : Str) = "is_sound") by decide +kernel, show ¬ (("one" : Str) = "other") by decide +kernel, show ¬ (("one" : Str) = "later") by decide +kernel, show ¬ (("other" : Str) = "kind") by decide +kernel, show ¬ (("other" : Str) = "_told") by decide +kernel, show ¬ (("other" : Str) = "tool") by decide +kernel, show ¬ (("other" : Str) = "moment") by decide +kernel, show ¬ (("other" : Str) = "by") by decide +kernel, show ¬ (("other" : Str) = "is_sound") by decide +kernel, show ¬ (("other" : Str) = "one") by decide +kernel, show ¬ (("other" : Str) = "later") by decide +kernel, show ¬ (("later" : Str) = "kind") by decide +kernel, show ¬ (("later" : Str) = "_told") by decide +kernel, show ¬ (("later" : Str) = "tool") by decide +kernel, show ¬ (("later" : Str) = "moment") by decide +kernel, show ¬ (("later" : Str) = "by") by decide +kernel, show ¬ (("later" : Str) = "is_sound") by decide +kernel, show ¬ (("later" : Str) = "one") by decide +kernel, show ¬ (("later" : Str) = "other") by decide +kernel, if_true, if_false]
      · simp only [lookup_putF, show ¬ (("kind" : Str) = "_told") by decide +kernel, show ¬ (("kind" : Str) = "tool") by decide +kernel, show ¬ (("kind" : Str) = "moment") by decide +kernel, show ¬ (("kind" : Str) = "by") by decide +kernel, show ¬ (("kind" : Str) = "is_sound") by decide +kernel, show ¬ (("kind" : Str) = "one") by decide +kernel, show ¬ (("kind" : Str) = "other") by decide +kernel, show ¬ (("kind" : Str) = "later") by decide +kernel, show ¬ (("_told" : Str) = "kind") by decide +kernel, show ¬ (("_told" : Str) = "tool") by decide +kernel, show ¬ (("_told" : Str) = "moment") by decide +kernel, show ¬ (("_told" : Str) = "by") by decide +kernel, show ¬ (("_told" : Str) = "is_sound") by decide +kernel, show ¬ (("_told" : Str) = "one") by decide +kernel, show ¬ (("_told" : Str) = "other") by decide +kernel, show ¬ (("_told" : Str) = "later") by decide +kernel, show ¬ (("tool" : Str) = "kind") by decide +kernel, show ¬ (("tool" : Str) = "_told") by decide +kernel, show ¬ (("tool" : Str) = "moment") by decide +kernel, show ¬ (("tool" : Str) = "by") by decide +kernel, show ¬ (("tool" : Str) = "is_sound") by decide +kernel, show ¬ (("tool" : Str) = "one") by decide +kernel, show ¬ (("tool" : Str) = "other") by decide +kernel, show ¬ (("tool" : Str) = "later") by decide +kernel, show ¬ (("moment" : Str) = "kind") by decide +kernel, show ¬ (("moment" : Str) = "_told") by decide +kernel, show ¬ (("moment" : Str) = "tool") by decide +kernel, show ¬ (("moment" : Str) = "by") by decide +kernel, show ¬ (("moment" : Str) = "is_sound") by decide +kernel, show ¬ (("moment" : Str) = "one") by decide +kernel, show ¬ (("moment" : Str) = "other") by decide +kernel, show ¬ (("moment" : Str) = "later") by decide +kernel, show ¬ (("by" : Str) = "kind") by decide +kernel, show ¬ (("by" : Str) = "_told") by decide +kernel, show ¬ (("by" : Str) = "tool") by decide +kernel, show ¬ (("by" : Str) = "moment") by decide +kernel, show ¬ (("by" : Str) = "is_sound") by decide +kernel, show ¬ (("by" : Str) = "one") by decide +kernel, show ¬ (("by" : Str) = "other") by decide +kernel, show ¬ (("by" : Str) = "later") by decide +kernel, show ¬ (("is_sound" : Str) = "kind") by decide +kernel, show ¬ (("is_sound" : Str) = "_told") by decide +kernel, show ¬ (("is_sound" : Str) = "tool") by decide +kernel, show ¬ (("is_sound" : Str) = "moment") by decide +kernel, show ¬ (("is_sound" : Str) = "by") by decide +kernel, show ¬ (("is_sound" : Str) = "one") by decide +kernel, show ¬ (("is_sound" : Str) = "other") by decide +kernel, show ¬ (("is_sound" : Str) = "later") by decide +kernel, show ¬ (("one" : Str) = "kind") by decide +kernel, show ¬ (("one" : Str) = "_told") by decide +kernel, show ¬ (("one" : Str) = "tool") by decide +kernel, show ¬ (("one" : Str) = "moment") by decide +kernel, show ¬ (("one" : Str) = "by") by decide +kernel, show ¬ (("one" : Str) = "is_sound") by decide +kernel, show ¬ (("one" : Str) = "other") by decide +kernel, show ¬ (("one" : Str) = "later") by decide +kernel, show ¬ (("other" : Str) = "kind") by decide +kernel, show ¬ (("other" : Str) = "_told") by decide +kernel, show ¬ (("other" : Str) = "tool") by decide +kernel, show ¬ (("other" : Str) = "moment") by decide +kernel, show ¬ (("other" : Str) = "by") by decide +kernel, show ¬ (("other" : Str) = "is_sound") by decide +kernel, show ¬ (("other" : Str) = "one") by decide +kernel, show ¬ (("other" : Str) = "later") by decide +kernel, show ¬ (("later" : Str) = "kind") by decide +kernel, show ¬ (("later" : Str) = "_told") by decide +kernel, show ¬ (("later" : Str) = "tool") by decide +kernel, show ¬ (("later" : Str) = "moment") by decide +kernel, show ¬ (("later" : Str) = "by") by decide +kernel, show ¬ (("later" : Str) = "is_sound") by decide +kernel, show ¬ (("later" : Str) = "one") by decide +kernel, show ¬ (("later" : Str) = "other") by decide +kernel, if_true, if_false]
      · repeat rw [upd_ne ntp]
        exact etp
      · rw [attrs_passed]
        simp only [List.zip_cons_cons, List.zip_nil_right, List.forall_mem_cons]
        refine ⟨(by simp only [lookup_putF, show ¬ (("kind" : Str) = "_told") by decide +kernel, show ¬ (("kind" : Str) = "tool") by decide +kernel, show ¬ (("kind" : Str) = "moment") by decide +kernel, show ¬ (("kind" : Str) = "by") by decide +kernel, show ¬ (("kind" : Str) = "is_sound") by decide +kernel, show ¬ (("kind" : Str) = "one") by decide +kernel, show ¬ (("kind" : Str) = "other") by decide +kernel, show ¬ (("kind" : Str) = "later") by decide +kernel, show ¬ (("_told" : Str) = "kind") by decide +kernel, show ¬ (("_told" : Str) = "tool") by decide +kernel, show ¬ (("_told" : Str) = "moment") by decide +kernel, show ¬ (("_told" : Str) = "by") by decide +kernel, show ¬ (("_told" : Str) = "is_sound") by decide +kernel, show ¬ (("_told" : Str) = "one") by decide +kernel, show ¬ (("_told" : Str) = "other") by decide +kernel, show ¬ (("_told" : Str) = "later") by decide +kernel, show ¬ (("tool" : Str) = "kind") by decide +kernel, show ¬ (("tool" : Str) = "_told") by decide +kernel, show ¬ (("tool" : Str) = "moment") by decide +kernel, show ¬ (("tool" : Str) = "by") by decide +kernel, show ¬ (("tool" : Str) = "is_sound") by decide +kernel, show ¬ (("tool" : Str) = "one") by decide +kernel, show ¬ (("tool" : Str) = "other") by decide +kernel, show ¬ (("tool" : Str) = "later") by decide +kernel, show ¬ (("moment" : Str) = "kind") by decide +kernel, show ¬ (("moment" : Str) = "_told") by decide +kernel, show ¬ (("moment" : Str) = "tool") by decide +kernel, show ¬ (("moment" : Str) = "by") by decide +kernel, show ¬ (("moment" : Str) = "is_sound") by decide +kernel, show ¬ (("moment" : Str) = "one") by decide +kernel, show ¬ (("moment" : Str) = "other") by decide +kernel, show ¬ (("moment" : Str) = "later") by decide +kernel, show ¬ (("by" : Str) = "kind") by decide +kernel, show ¬ (("by" : Str) = "_told") by decide +kernel, show ¬ (("by" : Str) = "tool") by decide +kernel, show ¬ (("by" : Str) = "moment") by decide +kernel, show ¬ (("by" : Str) = "is_sound") by decide +kernel, show ¬ (("by" : Str) = "one") by decide +kernel, show ¬ (("by" : Str) = "other") by decide +kernel, show ¬ (("by" : Str) = "later") by decide +kernel, show ¬ (("is_sound" : Str) = "kind") by decide +kernel, show ¬ (("is_sound" : Str) = "_told") by decide +kernel, show ¬ (("is_sound" : Str) = "tool") by decide +kernel, show ¬ (("is_sound" : Str) = "moment") by decide +kernel, show ¬ (("is_sound" : Str) = "by") by decide +kernel, show ¬ (("is_sound" : Str) = "one") by decide +kernel, show ¬ (("is_sound" : Str) = "other") by decide +kernel, show ¬ (("is_sound" : Str) = "later") by decide +kernel, show ¬ (("one" : Str) = "kind") by decide +kernel, show ¬ (("one" : Str) = "_told") by decide +kernel, show ¬ (("one" : Str) = "tool") by decide +kernel, show ¬ (("one" : Str) = "moment") by decide +kernel, show ¬ (("one" : Str) = "by") by decide +kernel, show ¬ (("one" : Str) = "is_sound") by decide +kernel, show ¬ (("one" : Str) = "other") by decide +kernel, show ¬ (("one" : Str) = "later") by decide +kernel, show ¬ (("other" : Str) = "kind") by decide +kernel, show ¬ (("other" : Str) = "_told") by decide +kernel, show ¬ (("other" : Str) = "tool") by decide +kernel, show ¬ (("other" : Str) = "moment") by decide +kernel, show ¬ (("other" : Str) = "by") by decide +kernel, show ¬ (("other" : Str) = "is_sound") by decide +kernel, show ¬ (("other" : Str) = "one") by decide +kernel, show ¬ (("other" : Str) = "later") by decide +kernel, show ¬ (("later" : Str) = "kind") by decide +kernel, show ¬ (("later" : Str) = "_told") by decide +kernel, show ¬ (("later" : Str) = "tool") by decide +kernel, show ¬ (("later" : Str) = "moment") by decide +kernel, show ¬ (("later" : Str) = "by") by decide +kernel, show ¬ (("later" : Str) = "is_sound") by decide +kernel, show ¬ (("later" : Str) = "one") by decide +kernel, show ¬ (("later" : Str) = "other") by decide +kernel, if_true, if_false]), (by simp only [lookup_putF, show ¬ (("kind" : Str) = "_told") by decide +kernel, show ¬ (("kind" : Str) = "tool") by decide +kernel, show ¬ (("kind" : Str) = "moment") by decide +kernel, show ¬ (("kind" : Str) = "by") by decide +kernel, show ¬ (("kind" : Str) = "is_sound") by decide +kernel, show ¬ (("kind" : Str) = "one") by decide +kernel, show ¬ (("kind" : Str) = "other") by decide +kernel, show ¬ (("kind" : Str) = "later") by decide +kernel, show ¬ (("_told" : Str) = "kind") by decide +kernel, show ¬ (("_told" : Str) = "tool") by decide +kernel, show ¬ (("_told" : Str) = "moment") by decide +kernel, show ¬ (("_told" : Str) = "by") by decide +kernel, show ¬ (("_told" : Str) = "is_sound") by decide +kernel, show ¬ (("_told" : Str) = "one") by decide +kernel, show ¬ (("_told" : Str) = "other") by decide +kernel, show ¬ (("_told" : Str) = "later") by decide +kernel, show ¬ (("tool" : Str) = "kind") by decide +kernel, show ¬ (("tool" : Str) = "_told") by decide +kernel, show ¬ (("tool" : Str) = "moment") by decide +kernel, show ¬ (("tool" : Str) = "by") by decide +kernel, show ¬ (("tool" : Str) = "is_sound") by decide +kernel, show ¬ (("tool" : Str) = "one") by decide +kernel, show ¬ (("tool" : Str) = "other") by decide +kernel, show ¬ (("tool" : Str) = "later") by decide +kernel, show ¬ (("moment" : Str) = "kind") by decide +kernel, show ¬ (("moment" : Str) = "_told") by decide +kernel, show ¬ (("moment" : Str) = "tool") by decide +kernel, show ¬ (("moment" : Str) = "by") by decide +kernel, show ¬ (("moment" : Str) = "is_sound") by decide +kernel, show ¬ (("moment" : Str) = "one") by decide +kernel, show ¬ (("moment" : Str) = "other") by decide +kernel, show ¬ (("moment" : Str) = "later") by decide +kernel, show ¬ (("by" : Str) = "kind") by decide +kernel, show ¬ (("by" : Str) = "_told") by decide +kernel, show ¬ (("by" : Str) = "tool") by decide +kernel, show ¬ (("by" : Str) = "moment") by decide +kernel, show ¬ (("by" : Str) = "is_sound") by decide +kernel, show ¬ (("by" : Str) = "one") by decide +kernel, show ¬ (("by" : Str) = "other") by decide +kernel, show ¬ (("by" : Str) = "later") by decide +kernel, show ¬ (("is_sound" : Str) = "kind") by decide +kernel, show ¬ (("is_sound" : Str) = "_told") by decide +kernel, show ¬ (("is_sound" : Str) = "tool") by decide +kernel, show ¬ (("is_sound" : Str) = "moment") by decide +kernel, show ¬ (("is_sound" : Str) = "by") by decide +kernel, show ¬ (("is_sound" : Str) = "one") by decide +kernel, show ¬ (("is_sound" : Str) = "other") by decide +kernel, show ¬ (("is_sound" : Str) = "later") by decide +kernel, show ¬ (("one" : Str) = "kind") by decide +kernel, show ¬ (("one" : Str) = "_told") by decide +kernel, show ¬ (("one" : Str) = "tool") by decide +kernel, show ¬ (("one" : Str) = "moment") by decide +kernel, show ¬ (("one" : Str) = "by") by decide +kernel, show ¬ (("one" : Str) = "is_sound") by decide +kernel, show ¬ (("one" : Str) = "other") by decide +kernel, show ¬ (("one" : Str) = "later") by decide +kernel, show ¬ (("other" : Str) = "kind") by decide +kernel, show ¬ (("other" : Str) = "_told") by decide +kernel, show ¬ (("other" : Str) = "tool") by decide +kernel, show ¬ (("other" : Str) = "moment") by decide +kernel, show ¬ (("other" : Str) = "by") by decide +kernel, show ¬ (("other" : Str) = "is_sound") by decide +kernel, show ¬ (("other" : Str) = "one") by decide +kernel, show ¬ (("other" : Str) = "later") by decide +kernel, show ¬ (("later" : Str) = "kind") by decide +kernel, show ¬ (("later" : Str) = "_told") by decide +kernel, show ¬ (("later" : Str) = "tool") by decide +kernel, show ¬ (("later" : Str) = "moment") by decide +kernel, show ¬ (("later" : Str) = "by") by decide +kernel, show ¬ (("later" : Str) = "is_sound") by decide +kernel, show ¬ (("later" : Str) = "one") by decide +kernel, show ¬ (("later" : Str) = "other") by decide +kernel, if_true, if_false]), (by simp only [lookup_putF, show ¬ (("kind" : Str) = "_told") by decide +kernel, show ¬ (("kind" : Str) = "tool") by decide +kernel, show ¬ (("kind" : Str) = "moment") by decide +kernel, show ¬ (("kind" : Str) = "by") by decide +kernel, show ¬ (("kind" : Str) = "is_sound") by decide +kernel, show ¬ (("kind" : Str) = "one") by decide +kernel, show ¬ (("kind" : Str) = "other") by decide +kernel, show ¬ (("kind" : Str) = "later") by decide +kernel, show ¬ (("_told" : Str) = "kind") by decide +kernel, show ¬ (("_told" : Str) = "tool") by decide +kernel, show ¬ (("_told" : Str) = "moment") by decide +kernel, show ¬ (("_told" : Str) = "by") by decide +kernel, show ¬ (("_told" : Str) = "is_sound") by decide +kernel, show ¬ (("_told" : Str) = "one") by decide +kernel, show ¬ (("_told" : Str) = "other") by decide +kernel, show ¬ (("_told" : Str) = "later") by decide +kernel, show ¬ (("tool" : Str) = "kind") by decide +kernel, show ¬ (("tool" : Str) = "_told") by decide +kernel, show ¬ (("tool" : Str) = "moment") by decide +kernel, show ¬ (("tool" : Str) = "by") by decide +kernel, show ¬ (("tool" : Str) = "is_sound") by decide +kernel, show ¬ (("tool" : Str) = "one") by decide +kernel, show ¬ (("tool" : Str) = "other") by decide +kernel, show ¬ (("tool" : Str) = "later") by decide +kernel, show ¬ (("moment" : Str) = "kind") by decide +kernel, show ¬ (("moment" : Str) = "_told") by decide +kernel, show ¬ (("moment" : Str) = "tool") by decide +kernel, show ¬ (("moment" : Str) = "by") by decide +kernel, show ¬ (("moment" : Str) = "is_sound") by decide +kernel, show ¬ (("moment" : Str) = "one") by decide +kernel, show ¬ (("moment" : Str) = "other") by decide +kernel, show ¬ (("moment" : Str) = "later") by decide +kernel, show ¬ (("by" : Str) = "kind") by decide +kernel, show ¬ (("by" : Str) = "_told") by decide +kernel, show ¬ (("by" : Str) = "tool") by decide +kernel, show ¬ (("by" : Str) = "moment") by decide +kernel, show ¬ (("by" : Str) = "is_sound") by decide +kernel, show ¬ (("by" : Str) = "one") by decide +kernel, show ¬ (("by" : Str) = "other") by decide +kernel, show ¬ (("by" : Str) = "later") by decide +kernel, show ¬ (("is_sound" : Str) = "kind") by decide +kernel, show ¬ (("is_sound" : Str) = "_told") by decide +kernel, show ¬ (("is_sound" : Str) = "tool") by decide +kernel, show ¬ (("is_sound" : Str) = "moment") by decide +kernel, show ¬ (("is_sound" : Str) = "by") by decide +kernel, show ¬ (("is_sound" : Str) = "one") by decide +kernel, show ¬ (("is_sound" : Str) = "other") by decide +kernel, show ¬ (("is_sound" : Str) = "later") by decide +kernel, show ¬ (("one" : Str) = "kind") by decide +kernel, show ¬ (("one" : Str) = "_told") by decide +kernel, show ¬ (("one" : Str) = "tool") by decide +kernel, show ¬ (("one" : Str) = "moment") by decide +kernel, show ¬ (("one" : Str) = "by") by decide +kernel, show ¬ (("one" : Str) = "is_sound") by decide +kernel, show ¬ (("one" : Str) = "other") by decide +kernel, show ¬ (("one" : Str) = "later") by decide +kernel, show ¬ (("other" : Str) = "kind") by decide +kernel, show ¬ (("other" : Str) = "_told") by decide +kernel, show ¬ (("other" : Str) = "tool") by decide +kernel, show ¬ (("other" : Str) = "moment") by decide +kernel, show ¬ (("other" : Str) = "by") by decide +kernel, show ¬ (("other" : Str) = "is_sound") by decide +kernel, show ¬ (("other" : Str) = "one") by decide +kernel, show ¬ (("other" : Str) = "later") by decide +kernel, show ¬ (("later" : Str) = "kind") by decide +kernel, show ¬ (("later" : Str) = "_told") by decide +kernel, show ¬ (("later" : Str) = "tool") by decide +kernel, show ¬ (("later" : Str) = "moment") by decide +kernel, show ¬ (("later" : Str) = "by") by decide +kernel, show ¬ (("later" : Str) = "is_sound") by decide +kernel, show ¬ (("later" : Str) = "one") by decide +kernel, show ¬ (("later" : Str) = "other") by decide +kernel, if_true, if_false]), fun _ h => nomatch h⟩
abbrev sFailed : Stmt := inClass (topS 41) 0
theorem scFailed : FnScope ["self", "tool", "moment", "by"] ["self", "tool", "moment", "by"] (defScope sFailed) := ⟨rfl, rfl, rfl, by decide +kernel, rfl, by decide +kernel, by decide +kernel⟩
theorem ok_Failed {CN CM CS C f fK : Addr} {fd fdK : FuncData} (F : Fun K "__init__" "Failed.__init__" sFailed f fd) (T : RowC K C ["_told", "kind", "tool", "moment", "by"]) (FK : Fun K "checked" "checked" sChecked fK fdK) (bK : Binds K fdK ["kind", "told"] []) (gK : mg "checked" = some (.ref fK))
    (GK : FnOk P w K mg base (L2.CX P w) 4 fK fdK ["kind", "told"] (spChecked CN CM CS)) : FnOk P w K mg base (L2.CX P w) 5 f fd ["self", "tool", "moment", "by"] (spRow CN CM CS C "failed") := by
  refine F.okX scFailed (fun vs H Q E h => ?_) (fun cdv A outer s H vs Q E hr h => ?_)
  · obtain ⟨x, dx, xs, rfl, _, hl, _⟩ := h
    show xs.length + 1 = 4
    have : (formsOf "failed").length = 3 := by decide +kernel
    omega
  · obtain ⟨x, dx, xs, rfl, hx, hl, hg, qy, qn⟩ := h
    have hkin : ("failed" : Str) ∈ kinds := by decide +kernel
    have hl4 : (formsOf "failed").length = 3 := by decide +kernel
    obtain ⟨v0, v1, v2, rfl⟩ : ∃ v0 v1 v2, xs = [v0, v1, v2] := by
      rw [hl4] at hl
      match xs, hl with
      | [v0, v1, v2], _ => exact ⟨_, _, _, rfl⟩
    have no := T.no
    simp only [List.forall_mem_cons] at no
    obtain ⟨n0, n1, n2, n3, n4, _⟩ := no
    refine ⟨_, pss_cons (ps_fld (pv 0) (pe_call GK hr (by rfl) gK FK.kp bK .nil (passes_call (takes_of rfl rfl rfl rfl) (fun _ _ _ _ h => h)) (pa_cons pe_str (pa_cons (pe_tup (pa_cons (pv 1) (pa_cons (pv 2) (pa_cons (pv 3) pa_nil)))) pa_nil))) rfl)
      (pss_cons (ps_fld (pv 0) pe_str rfl)
      (pss_cons (ps_fld (pv 0) (pv 1) rfl) (pss_cons (ps_fld (pv 0) (pv 2) rfl) (pss_one (ps_fld (pv 0) (pv 3) rfl))))), ?_⟩
    refine ⟨_, rfl, _, rfl, _, rfl, by show 3 ≤ sizeLine; decide, fun tp htp => ?_⟩
    have s1 := same_upd0 (o := .tup [v0, v1, v2]) htp
    refine ⟨"failed", tp, [v0, v1, v2], rfl, hkin, upd_same, hl, (fun y hy => (hg y hy).elim fun T h => ⟨T, h.same s1⟩), fun gd H2 s2 => ?_, fun C' fl v g d H' s e => qn C' fl v g d H' (s1.trans s) e⟩
    have hx2 := s2 _ _ (s1 _ _ hx)
    have s12 := s1.trans s2
    refine ⟨_, rfl, x, C, dx, [], rfl, hx2, T.cl, n0, by show 0 < 1000; decide, ?_⟩
    refine ⟨_, rfl, x, C, dx, _, rfl, upd_same, T.cl, n1, Nat.lt_of_le_of_lt (lenC (Nat.le_refl 0)) (by decide), ?_⟩
    refine ⟨_, rfl, _, rfl, x, C, dx, _, rfl, upd_same, T.cl, n2, Nat.lt_of_le_of_lt (lenC (lenC (Nat.le_refl 0))) (by decide), ?_⟩
    refine ⟨_, rfl, _, rfl, x, C, dx, _, rfl, upd_same, T.cl, n3, Nat.lt_of_le_of_lt (lenC (lenC (lenC (Nat.le_refl 0)))) (by decide), ?_⟩
    refine ⟨_, rfl, _, rfl, x, C, dx, _, rfl, upd_same, T.cl, n4, Nat.lt_of_le_of_lt (lenC (lenC (lenC (lenC (Nat.le_refl 0))))) (by decide), ?_⟩
    refine qy gd _ _ (fun c o nc e => ?_) upd_same ?_
    · rw [upd_ne nc, upd_ne nc, upd_ne nc, upd_ne nc, upd_ne nc]
      exact s12 c o e
    · have ntp : tp ≠ x := fun z => by rw [z, hx] at htp; cases htp
      have etp := s2 _ _ (show (upd H tp (.tup _)) tp = _ from upd_same)
      refine ⟨?_, ⟨tp, ?_, ?_⟩, ?_, (by repeat (first | exact NoM.nil | refine NoM.put ?_ (by decide +kernel)))⟩
      · simp only [lookup_putF, show ¬ (("kind" : Str) = "_told") by decide +kernel, show ¬ (("kind" : Str) = "tool") by decide +kernel, show ¬ (("kind" : Str) = "moment") by decide +kernel, show ¬ (("kind" : Str) = "by") by decide +kernel, show ¬ (("kind" : Str) = "is_sound") by decide +kernel, show ¬ (("kind" : Str) = "one") by decide +kernel, show ¬ (("kind" : Str) = "other") by decide +kernel, show ¬ (("kind" : Str) = "later") by decide +kernel, show ¬ (("_told" : Str) = "kind") by decide +kernel, show ¬ (("_told" : Str) = "tool") by decide +kernel, show ¬ (("_told" : Str) = "moment") by decide +kernel, show ¬ (("_told" : Str) = "by") by decide +kernel, show ¬ (("_told" : Str) = "is_sound") by decide +kernel, show ¬ (("_told" : Str) = "one") by decide +kernel, show ¬ (("_told" : Str) = "other") by decide +kernel, show ¬ (("_told" : Str) = "later") by decide +kernel, show ¬ (("tool" : Str) = "kind") by decide +kernel, show ¬ (("tool" : Str) = "_told") by decide +kernel, show ¬ (("tool" : Str) = "moment") by decide +kernel, show ¬ (("tool" : Str) = "by") by decide +kernel, show ¬ (("tool" : Str) = "is_sound") by decide +kernel, show ¬ (("tool" : Str) = "one") by decide +kernel, show ¬ (("tool" : Str) = "other") by decide +kernel, show ¬ (("tool" : Str) = "later") by decide +kernel, show ¬ (("moment" : Str) = "kind") by decide +kernel, show ¬ (("moment" : Str) = "_told") by decide +kernel, show ¬ (("moment" : Str) = "tool") by decide +kernel, show ¬ (("moment" : Str) = "by") by decide +kernel, show ¬ (("moment" : Str) = "is_sound") by decide +kernel, show ¬ (("moment" : Str) = "one") by decide +kernel, show ¬ (("moment" : Str) = "other") by decide +kernel, show ¬ (("moment" : Str) = "later") by decide +kernel, show ¬ (("by" : Str) = "kind") by decide +kernel, show ¬ (("by" : Str) = "_told") by decide +kernel, show ¬ (("by" : Str) = "tool") by decide +kernel, show ¬ (("by" : Str) = "moment") by decide +kernel, show ¬ (("by" : Str) = "is_sound") by decide +kernel, show ¬ (("by" : Str) = "one") by decide +kernel, show ¬ (("by" : Str) = "other") by decide +kernel, show ¬ (("by" : Str) = "later") by decide +kernel, show ¬ (("is_sound" : Str) = "kind") by decide +kernel, show ¬ (("is_sound" : Str) = "_told") by decide +kernel, show ¬ (("is_sound" : Str) = "tool") by decide +kernel, show ¬ (("is_sound" : Str) = "moment") by decide +kernel, show ¬ (("is_sound" : Str) = "by") by decide +kernel, show ¬ (("is_sound" : Str) = "one") by decide +kernel, show ¬ (("is_sound" : Str) = "other") by decide +kernel, show ¬ (("is_sound" : Str) = "later") by decide +kernel, show ¬ (("one" : Str) = "kind") by decide +kernel, show ¬ (("one" : Str) = "_told") by decide +kernel, show ¬ (("one" : Str) = "tool") by decide +kernel, show ¬ (("one" : Str) = "moment") by decide +kernel, show ¬ (("one" : Str) = "by") by decide +kernel, show ¬ (("one" : Str) = "is_sound") by decide +kernel, show ¬ (("one" : Str) = "other") by decide +kernel, show ¬ (("one" : Str) = "later") by decide +kernel, show ¬ (("other" : Str) = "kind") by decide +kernel, show ¬ (("other" : Str) = "_told") by decide +kernel, show ¬ (("other" : Str) = "tool") by decide +kernel, show ¬ (("other" : Str) = "moment") by decide +kernel, show ¬ (("other" : Str) = "by") by decide +kernel, show ¬ (("other" : Str) = "is_sound") by decide +kernel, show ¬ (("other" : Str) = "one") by decide +kernel, show ¬ (("other" : Str) = "later") by decide +kernel, show ¬ (("later" : Str) = "kind") by decide +kernel, show ¬ (("later" : Str) = "_told") by decide +kernel, show ¬ (("later" : Str) = "tool") by decide +kernel, show ¬ (("later" : Str) = "moment") by decide +kernel, show ¬ (("later" : Str) = "by") by decide +kernel, show ¬ (("later" : Str) = "is_sound") by decide +kernel, show ¬ (("later" : Str) = "one") by decide +kernel, show ¬ (("later" : Str) = "other") by decide +kernel, if_true, if_false]
      · simp only [lookup_putF, show ¬ (("kind" : Str) = "_told") by decide +kernel, show ¬ (("kind" : Str) = "tool") by decide +kernel, show ¬ (("kind" : Str) = "moment") by decide +kernel, show ¬ (("kind" : Str) = "by") by decide +kernel, show ¬ (("kind" : Str) = "is_sound") by decide +kernel, show ¬ (("kind" : Str) = "one") by decide +kernel, show ¬ (("kind" : Str) = "other") by decide +kernel, show ¬ (("kind" : Str) = "later") by decide +kernel, show ¬ (("_told" : Str) = "kind") by decide +kernel, show ¬ (("_told" : Str) = "tool") by decide +kernel, show ¬ (("_told" : Str) = "moment") by decide +kernel, show ¬ (("_told" : Str) = "by") by decide +kernel, show ¬ (("_told" : Str) = "is_sound") by decide +kernel, show ¬ (("_told" : Str) = "one") by decide +kernel, show ¬ (("_told" : Str) = "other") by decide +kernel, show ¬ (("_told" : Str) = "later") by decide +kernel, show ¬ (("tool" : Str) = "kind") by decide +kernel, show ¬ (("tool" : Str) = "_told") by decide +kernel, show ¬ (("tool" : Str) = "moment") by decide +kernel, show ¬ (("tool" : Str) = "by") by decide +kernel, show ¬ (("tool" : Str) = "is_sound") by decide +kernel, show ¬ (("tool" : Str) = "one") by decide +kernel, show ¬ (("tool" : Str) = "other") by decide +kernel, show ¬ (("tool" : Str) = "later") by decide +kernel, show ¬ (("moment" : Str) = "kind") by decide +kernel, show ¬ (("moment" : Str) = "_told") by decide +kernel, show ¬ (("moment" : Str) = "tool") by decide +kernel, show ¬ (("moment" : Str) = "by") by decide +kernel, show ¬ (("moment" : Str) = "is_sound") by decide +kernel, show ¬ (("moment" : Str) = "one") by decide +kernel, show ¬ (("moment" : Str) = "other") by decide +kernel, show ¬ (("moment" : Str) = "later") by decide +kernel, show ¬ (("by" : Str) = "kind") by decide +kernel, show ¬ (("by" : Str) = "_told") by decide +kernel, show ¬ (("by" : Str) = "tool") by decide +kernel, show ¬ (("by" : Str) = "moment") by decide +kernel, show ¬ (("by" : Str) = "is_sound") by decide +kernel, show ¬ (("by" : Str) = "one") by decide +kernel, show ¬ (("by" : Str) = "other") by decide +kernel, show ¬ (("by" : Str) = "later") by decide +kernel, show ¬ (("is_sound" : Str) = "kind") by decide +kernel, show ¬ (("is_sound" : Str) = "_told") by decide +kernel, show ¬ (("is_sound" : Str) = "tool") by decide +kernel, show ¬ (("is_sound" : Str) = "moment") by decide +kernel, show ¬ (("is_sound" : Str) = "by") by decide +kernel, show ¬ (("is_sound" : Str) = "one") by decide +kernel, show ¬ (("is_sound" : Str) = "other") by decide +kernel, show ¬ (("is_sound" : Str) = "later") by decide +kernel, show ¬ (("one" : Str) = "kind") by decide +kernel, show ¬ (("one" : Str) = "_told") by decide +kernel, show ¬ (("one" : Str) = "tool") by decide +kernel, show ¬ (("one" : Str) = "moment") by decide +kernel, show ¬ (("one" : Str) = "by") by decide +kernel, show ¬ (("one" : Str) = "is_sound") by decide +kernel, show ¬ (("one" : Str) = "other") by decide +kernel, show ¬ (("one" : Str) = "later") by decide +kernel, show ¬ (("other" : Str) = "kind") by decide +kernel, show ¬ (("other" : Str) = "_told") by decide +kernel, show ¬ (("other" : Str) = "tool") by decide +kernel, show ¬ (("other" : Str) = "moment") by decide +kernel, show ¬ (("other" : Str) = "by") by decide +kernel, show ¬ (("other" : Str) = "is_sound") by decide +kernel, show ¬ (("other" : Str) = "one") by decide +kernel, show ¬ (("other" : Str) = "later") by decide +kernel, show ¬ (("later" : Str) = "kind") by decide +kernel, show ¬ (("later" : Str) = "_told") by decide +kernel, show ¬ (("later" : Str) = "tool") by decide +kernel, show ¬ (("later" : Str) = "moment") by decide +kernel, show ¬ (("later" : Str) = "by") by decide +kernel, show ¬ (("later" : Str) = "is_sound") by decide +kernel, show ¬ (("later" : Str) = "one") by decide +kernel, show ¬ (("later" : Str) = "other") by decide +kernel, if_true, if_false]
      · repeat rw [upd_ne ntp]
        exact etp
      · rw [attrs_failed]
        simp only [List.zip_cons_cons, List.zip_nil_right, List.forall_mem_cons]
        refine ⟨(by simp only [lookup_putF, show ¬ (("kind" : Str) = "_told") by decide +kernel, show ¬ (("kind" : Str) = "tool") by decide +kernel, show ¬ (("kind" : Str) = "moment") by decide +kernel, show ¬ (("kind" : Str) = "by") by decide +kernel, show ¬ (("kind" : Str) = "is_sound") by decide +kernel, show ¬ (("kind" : Str) = "one") by decide +kernel, show ¬ (("kind" : Str) = "other") by decide +kernel, show ¬ (("kind" : Str) = "later") by decide +kernel, show ¬ (("_told" : Str) = "kind") by decide +kernel, show ¬ (("_told" : Str) = "tool") by decide +kernel, show ¬ (("_told" : Str) = "moment") by decide +kernel, show ¬ (("_told" : Str) = "by") by decide +kernel, show ¬ (("_told" : Str) = "is_sound") by decide +kernel, show ¬ (("_told" : Str) = "one") by decide +kernel, show ¬ (("_told" : Str) = "other") by decide +kernel, show ¬ (("_told" : Str) = "later") by decide +kernel, show ¬ (("tool" : Str) = "kind") by decide +kernel, show ¬ (("tool" : Str) = "_told") by decide +kernel, show ¬ (("tool" : Str) = "moment") by decide +kernel, show ¬ (("tool" : Str) = "by") by decide +kernel, show ¬ (("tool" : Str) = "is_sound") by decide +kernel, show ¬ (("tool" : Str) = "one") by decide +kernel, show ¬ (("tool" : Str) = "other") by decide +kernel, show ¬ (("tool" : Str) = "later") by decide +kernel, show ¬ (("moment" : Str) = "kind") by decide +kernel, show ¬ (("moment" : Str) = "_told") by decide +kernel, show ¬ (("moment" : Str) = "tool") by decide +kernel, show ¬ (("moment" : Str) = "by") by decide +kernel, show ¬ (("moment" : Str) = "is_sound") by decide +kernel, show ¬ (("moment" : Str) = "one") by decide +kernel, show ¬ (("moment" : Str) = "other") by decide +kernel, show ¬ (("moment" : Str) = "later") by decide +kernel, show ¬ (("by" : Str) = "kind") by decide +kernel, show ¬ (("by" : Str) = "_told") by decide +kernel, show ¬ (("by" : Str) = "tool") by decide +kernel, show ¬ (("by" : Str) = "moment") by decide +kernel, show ¬ (("by" : Str) = "is_sound") by decide +kernel, show ¬ (("by" : Str) = "one") by decide +kernel, show ¬ (("by" : Str) = "other") by decide +kernel, show ¬ (("by" : Str) = "later") by decide +kernel, show ¬ (("is_sound" : Str) = "kind") by decide +kernel, show ¬ (("is_sound" : Str) = "_told") by decide +kernel, show ¬ (("is_sound" : Str) = "tool") by decide +kernel, show ¬ (("is_sound" : Str) = "moment") by decide +kernel, show ¬ (("is_sound" : Str) = "by") by decide +kernel, show ¬ (("is_sound" : Str) = "one") by decide +kernel, show ¬ (("is_sound" : Str) = "other") by decide +kernel, show ¬ (("is_sound" : Str) = "later") by decide +kernel, show ¬ (("one" : Str) = "kind") by decide +kernel, show ¬ (("one" : Str) = "_told") by decide +kernel, show ¬ (("one" : Str) = "tool") by decide +kernel, show ¬ (("one" : Str) = "moment") by decide +kernel, show ¬ (("one" : Str) = "by") by decide +kernel, show ¬ (("one" : Str) = "is_sound") by decide +kernel, show ¬ (("one" : Str) = "other") by decide +kernel, show ¬ (("one" : Str) = "later") by decide +kernel, show ¬ (("other" : Str) = "kind") by decide +kernel, show ¬ (("other" : Str) = "_told") by decide +kernel, show ¬ (("other" : Str) = "tool") by decide +kernel, show ¬ (("other" : Str) = "moment") by decide +kernel, show ¬ (("other" : Str) = "by") by decide +kernel, show ¬ (("other" : Str) = "is_sound") by decide +kernel, show ¬ (("other" : Str) = "one") by decide +kernel, show ¬ (("other" : Str) = "later") by decide +kernel, show ¬ (("later" : Str) = "kind") by decide +kernel, show ¬ (("later" : Str) = "_told") by decide +kernel, show ¬ (("later" : Str) = "tool") by decide +kernel, show ¬ (("later" : Str) = "moment") by decide +kernel, show ¬ (("later" : Str) = "by") by decide +kernel, show ¬ (("later" : Str) = "is_sound") by decide +kernel, show ¬ (("later" : Str) = "one") by decide +kernel, show ¬ (("later" : Str) = "other") by decide +kernel, if_true, if_false]), (by simp only [lookup_putF, show ¬ (("kind" : Str) = "_told") by decide +kernel, show ¬ (("kind" : Str) = "tool") by decide +kernel, show ¬ (("kind" : Str) = "moment") by decide +kernel, show ¬ (("kind" : Str) = "by") by decide +kernel, show ¬ (("kind" : Str) = "is_sound") by decide +kernel, show ¬ (("kind" : Str) = "one") by decide +kernel, show ¬ (("kind" : Str) = "other") by decide +kernel, show ¬ (("kind" : Str) = "later") by decide +kernel, show ¬ (("_told" : Str) = "kind") by decide +kernel, show ¬ (("_told" : Str) = "tool") by decide +kernel, show ¬ (("_told" : Str) = "moment") by decide +kernel, show ¬ (("_told" : Str) = "by") by decide +kernel, show ¬ (("_told" : Str) = "is_sound") by decide +kernel, show ¬ (("_told" : Str) = "one") by decide +kernel, show ¬ (("_told" : Str) = "other") by decide +kernel, show ¬ (("_told" : Str) = "later") by decide +kernel, show ¬ (("tool" : Str) = "kind") by decide +kernel, show ¬ (("tool" : Str) = "_told") by decide +kernel, show ¬ (("tool" : Str) = "moment") by decide +kernel, show ¬ (("tool" : Str) = "by") by decide +kernel, show ¬ (("tool" : Str) = "is_sound") by decide +kernel, show ¬ (("tool" : Str) = "one") by decide +kernel, show ¬ (("tool" : Str) = "other") by decide +kernel, show ¬ (("tool" : Str) = "later") by decide +kernel, show ¬ (("moment" : Str) = "kind") by decide +kernel, show ¬ (("moment" : Str) = "_told") by decide +kernel, show ¬ (("moment" : Str) = "tool") by decide +kernel, show ¬ (("moment" : Str) = "by") by decide +kernel, show ¬ (("moment" : Str) = "is_sound") by decide +kernel, show ¬ (("moment" : Str) = "one") by decide +kernel, show ¬ (("moment" : Str) = "other") by decide +kernel, show ¬ (("moment" : Str) = "later") by decide +kernel, show ¬ (("by" : Str) = "kind") by decide +kernel, show ¬ (("by" : Str) = "_told") by decide +kernel, show ¬ (("by" : Str) = "tool") by decide +kernel, show ¬ (("by" : Str) = "moment") by decide +kernel, show ¬ (("by" : Str) = "is_sound") by decide +kernel, show ¬ (("by" : Str) = "one") by decide +kernel, show ¬ (("by" : Str) = "other") by decide +kernel, show ¬ (("by" : Str) = "later") by decide +kernel, show ¬ (("is_sound" : Str) = "kind") by decide +kernel, show ¬ (("is_sound" : Str) = "_told") by decide +kernel, show ¬ (("is_sound" : Str) = "tool") by decide +kernel, show ¬ (("is_sound" : Str) = "moment") by decide +kernel, show ¬ (("is_sound" : Str) = "by") by decide +kernel, show ¬ (("is_sound" : Str) = "one") by decide +kernel, show ¬ (("is_sound" : Str) = "other") by decide +kernel, show ¬ (("is_sound" : Str) = "later") by decide +kernel, show ¬ (("one" : Str) = "kind") by decide +kernel, show ¬ (("one" : Str) = "_told") by decide +kernel, show ¬ (("one" : Str) = "tool") by decide +kernel, show ¬ (("one" : Str) = "moment") by decide +kernel, show ¬ (("one" : Str) = "by") by decide +kernel, show ¬ (("one" : Str) = "is_sound") by decide +kernel, show ¬ (("one" : Str) = "other") by decide +kernel, show ¬ (("one" : Str) = "later") by decide +kernel, show ¬ (("other" : Str) = "kind") by decide +kernel, show ¬ (("other" : Str) = "_told") by decide +kernel, show ¬ (("other" : Str) = "tool") by decide +kernel, show ¬ (("other" : Str) = "moment") by decide +kernel, show ¬ (("other" : Str) = "by") by decide +kernel, show ¬ (("other" : Str) = "is_sound") by decide +kernel, show ¬ (("other" : Str) = "one") by decide +kernel, show ¬ (("other" : Str) = "later") by decide +kernel, show ¬ (("later" : Str) = "kind") by decide +kernel, show ¬ (("later" : Str) = "_told") by decide +kernel, show ¬ (("later" : Str) = "tool") by decide +kernel, show ¬ (("later" : Str) = "moment") by decide +kernel, show ¬ (("later" : Str) = "by") by decide +kernel, show ¬ (("later" : Str) = "is_sound") by decide +kernel, show ¬ (("later" : Str) = "one") by decide +kernel, show ¬ (("later" : Str) = "other") by decide +kernel, if_true, if_false]), (by simp only [lookup_putF, show ¬ (("kind" : Str) = "_told") by decide +kernel, show ¬ (("kind" : Str) = "tool") by decide +kernel, show ¬ (("kind" : Str) = "moment") by decide +kernel, show ¬ (("kind" : Str) = "by") by decide +kernel, show ¬ (("kind" : Str) = "is_sound") by decide +kernel, show ¬ (("kind" : Str) = "one") by decide +kernel, show ¬ (("kind" : Str) = "other") by decide +kernel, show ¬ (("kind" : Str) = "later") by decide +kernel, show ¬ (("_told" : Str) = "kind") by decide +kernel, show ¬ (("_told" : Str) = "tool") by decide +kernel, show ¬ (("_told" : Str) = "moment") by decide +kernel, show ¬ (("_told" : Str) = "by") by decide +kernel, show ¬ (("_told" : Str) = "is_sound") by decide +kernel, show ¬ (("_told" : Str) = "one") by decide +kernel, show ¬ (("_told" : Str) = "other") by decide +kernel, show ¬ (("_told" : Str) = "later") by decide +kernel, show ¬ (("tool" : Str) = "kind") by decide +kernel, show ¬ (("tool" : Str) = "_told") by decide +kernel, show ¬ (("tool" : Str) = "moment") by decide +kernel, show ¬ (("tool" : Str) = "by") by decide +kernel, show ¬ (("tool" : Str) = "is_sound") by decide +kernel, show ¬ (("tool" : Str) = "one") by decide +kernel, show ¬ (("tool" : Str) = "other") by decide +kernel, show ¬ (("tool" : Str) = "later") by decide +kernel, show ¬ (("moment" : Str) = "kind") by decide +kernel, show ¬ (("moment" : Str) = "_told") by decide +kernel, show ¬ (("moment" : Str) = "tool") by decide +kernel, show ¬ (("moment" : Str) = "by") by decide +kernel, show ¬ (("moment" : Str) = "is_sound") by decide +kernel, show ¬ (("moment" : Str) = "one") by decide +kernel, show ¬ (("moment" : Str) = "other") by decide +kernel, show ¬ (("moment" : Str) = "later") by decide +kernel, show ¬ (("by" : Str) = "kind") by decide +kernel, show ¬ (("by" : Str) = "_told") by decide +kernel, show ¬ (("by" : Str) = "tool") by decide +kernel, show ¬ (("by" : Str) = "moment") by decide +kernel, show ¬ (("by" : Str) = "is_sound") by decide +kernel, show ¬ (("by" : Str) = "one") by decide +kernel, show ¬ (("by" : Str) = "other") by decide +kernel, show ¬ (("by" : Str) = "later") by decide +kernel, show ¬ (("is_sound" : Str) = "kind") by decide +kernel, show ¬ (("is_sound" : Str) = "_told") by decide +kernel, show ¬ (("is_sound" : Str) = "tool") by decide +kernel, show ¬ (("is_sound" : Str) = "moment") by decide +kernel, show ¬ (("is_sound" : Str) = "by") by decide +kernel, show ¬ (("is_sound" : Str) = "one") by decide +kernel, show ¬ (("is_sound" : Str) = "other") by decide +kernel, show ¬ (("is_sound" : Str) = "later") by decide +kernel, show ¬ (("one" : Str) = "kind") by decide +kernel, show ¬ (("one" : Str) = "_told") by decide +kernel, show ¬ (("one" : Str) = "tool") by decide +kernel, show ¬ (("one" : Str) = "moment") by decide +kernel, show ¬ (("one" : Str) = "by") by decide +kernel, show ¬ (("one" : Str) = "is_sound") by decide +kernel, show ¬ (("one" : Str) = "other") by decide +kernel, show ¬ (("one" : Str) = "later") by decide +kernel, show ¬ (("other" : Str) = "kind") by decide +kernel, show ¬ (("other" : Str) = "_told") by decide +kernel, show ¬ (("other" : Str) = "tool") by decide +kernel, show ¬ (("other" : Str) = "moment") by decide +kernel, show ¬ (("other" : Str) = "by") by decide +kernel, show ¬ (("other" : Str) = "is_sound") by decide +kernel, show ¬ (("other" : Str) = "one") by decide +kernel, show ¬ (("other" : Str) = "later") by decide +kernel, show ¬ (("later" : Str) = "kind") by decide +kernel, show ¬ (("later" : Str) = "_told") by decide +kernel, show ¬ (("later" : Str) = "tool") by decide +kernel, show ¬ (("later" : Str) = "moment") by decide +kernel, show ¬ (("later" : Str) = "by") by decide +kernel, show ¬ (("later" : Str) = "is_sound") by decide +kernel, show ¬ (("later" : Str) = "one") by decide +kernel, show ¬ (("later" : Str) = "other") by decide +kernel, if_true, if_false]), fun _ h => nomatch h⟩
abbrev sMeeting : Stmt := inClass (topS 35) 0
theorem scMeeting : FnScope ["self", "kind", "one", "moment", "other", "later"] ["self", "kind", "one", "moment", "other", "later"] (defScope sMeeting) := ⟨rfl, rfl, rfl, by decide +kernel, rfl, by decide +kernel, by decide +kernel⟩
def spMeet (CN CM CS C : Addr) : Sp := fun vs H Q E => ∃ (x dx : Addr) (kind : Str) (xs : List V), vs = .ref x :: .str kind :: xs ∧ kind ∈ (["agreed", "differed", "served", "backed"] : List Str) ∧ H x = some (.ins C dx []) ∧ xs.length = (formsOf kind).length ∧ (∀ y ∈ xs, ∃ T, Gv H y T) ∧
  WaysL CN CM CS (xs.zip (formsOf kind)) H E (∀ H' fs, Off x H H' → H' x = some (.ins C dx fs) → Told kind xs H' fs → Q .non H')
theorem meet_in : ∀ kind ∈ (["agreed", "differed", "served", "backed"] : List Str), kind ∈ kinds ∧ (formsOf kind).length = 4 := by decide +kernel
theorem ok_Meeting {CN CM CS C f fK : Addr} {fd fdK : FuncData} (F : Fun K "__init__" "Meeting.__init__" sMeeting f fd) (T : RowC K C ["_told", "kind", "one", "moment", "other", "later"]) (FK : Fun K "checked" "checked" sChecked fK fdK) (bK : Binds K fdK ["kind", "told"] []) (gK : mg "checked" = some (.ref fK))
    (GK : FnOk P w K mg base (L2.CX P w) 4 fK fdK ["kind", "told"] (spChecked CN CM CS)) : FnOk P w K mg base (L2.CX P w) 5 f fd ["self", "kind", "one", "moment", "other", "later"] (spMeet CN CM CS C) := by
  refine F.okX scMeeting (fun vs H Q E h => ?_) (fun cdv A outer s H vs Q E hr h => ?_)
  · obtain ⟨x, dx, kind, xs, rfl, hk, _, hl, _⟩ := h
    rw [(meet_in kind hk).2] at hl
    show xs.length + 1 + 1 = 6
    omega
  · obtain ⟨x, dx, kind, xs, rfl, hk, hx, hl, hg, qy, qn⟩ := h
    have hkin := (meet_in kind hk).1
    have hl4 := (meet_in kind hk).2
    obtain ⟨v0, v1, v2, v3, rfl⟩ : ∃ v0 v1 v2 v3, xs = [v0, v1, v2, v3] := by
      rw [hl4] at hl
      match xs, hl with
      | [v0, v1, v2, v3], _ => exact ⟨_, _, _, _, rfl⟩
    have no := T.no
    simp only [List.forall_mem_cons] at no
    obtain ⟨n0, n1, n2, n3, n4, n5, _⟩ := no
    refine ⟨_, pss_cons (ps_fld (pv 0) (pe_call GK hr (by rfl) gK FK.kp bK .nil (passes_call (takes_of rfl rfl rfl rfl) (fun _ _ _ _ h => h)) (pa_cons (pv 1) (pa_cons (pe_tup (pa_cons (pv 2) (pa_cons (pv 3) (pa_cons (pv 4) (pa_cons (pv 5) pa_nil))))) pa_nil))) rfl)
      (pss_cons (ps_fld (pv 0) (pv 1) rfl)
      (pss_cons (ps_fld (pv 0) (pv 2) rfl) (pss_cons (ps_fld (pv 0) (pv 3) rfl) (pss_cons (ps_fld (pv 0) (pv 4) rfl) (pss_one (ps_fld (pv 0) (pv 5) rfl)))))), ?_⟩
    refine ⟨_, rfl, _, rfl, _, rfl, _, rfl, _, rfl, by show 4 ≤ sizeLine; decide, fun tp htp => ?_⟩
    have s1 := same_upd0 (o := .tup [v0, v1, v2, v3]) htp
    refine ⟨kind, tp, [v0, v1, v2, v3], rfl, hkin, upd_same, hl, (fun y hy => (hg y hy).elim fun T h => ⟨T, h.same s1⟩), fun gd H2 s2 => ?_, fun C' fl v g d H' s e => qn C' fl v g d H' (s1.trans s) e⟩
    have hx2 := s2 _ _ (s1 _ _ hx)
    have s12 := s1.trans s2
    refine ⟨_, rfl, x, C, dx, [], rfl, hx2, T.cl, n0, by show 0 < 1000; decide, ?_⟩
    refine ⟨_, rfl, _, rfl, x, C, dx, _, rfl, upd_same, T.cl, n1, Nat.lt_of_le_of_lt (lenC (Nat.le_refl 0)) (by decide), ?_⟩
    refine ⟨_, rfl, _, rfl, x, C, dx, _, rfl, upd_same, T.cl, n2, Nat.lt_of_le_of_lt (lenC (lenC (Nat.le_refl 0))) (by decide), ?_⟩
    refine ⟨_, rfl, _, rfl, x, C, dx, _, rfl, upd_same, T.cl, n3, Nat.lt_of_le_of_lt (lenC (lenC (lenC (Nat.le_refl 0)))) (by decide), ?_⟩
    refine ⟨_, rfl, _, rfl, x, C, dx, _, rfl, upd_same, T.cl, n4, Nat.lt_of_le_of_lt (lenC (lenC (lenC (lenC (Nat.le_refl 0))))) (by decide), ?_⟩
    refine ⟨_, rfl, _, rfl, x, C, dx, _, rfl, upd_same, T.cl, n5, Nat.lt_of_le_of_lt (lenC (lenC (lenC (lenC (lenC (Nat.le_refl 0)))))) (by decide), ?_⟩
    refine qy gd _ _ (fun c o nc e => ?_) upd_same ?_
    · rw [upd_ne nc, upd_ne nc, upd_ne nc, upd_ne nc, upd_ne nc, upd_ne nc]
      exact s12 c o e
    · have ntp : tp ≠ x := fun z => by rw [z, hx] at htp; cases htp
      have etp := s2 _ _ (show (upd H tp (.tup _)) tp = _ from upd_same)
      refine ⟨?_, ⟨tp, ?_, ?_⟩, ?_, (by repeat (first | exact NoM.nil | refine NoM.put ?_ (by decide +kernel)))⟩
      · simp only [lookup_putF, show ¬ (("kind" : Str) = "_told") by decide +kernel, show ¬ (("kind" : Str) = "tool") by decide +kernel, show ¬ (("kind" : Str) = "moment") by decide +kernel, show ¬ (("kind" : Str) = "by") by decide +kernel, show ¬ (("kind" : Str) = "is_sound") by decide +kernel, show ¬ (("kind" : Str) = "one") by decide +kernel, show ¬ (("kind" : Str) = "other") by decide +kernel, show ¬ (("kind" : Str) = "later") by decide +kernel, show ¬ (("_told" : Str) = "kind") by decide +kernel, show ¬ (("_told" : Str) = "tool") by decide +kernel, show ¬ (("_told" : Str) = "moment") by decide +kernel, show ¬ (("_told" : Str) = "by") by decide +kernel, show ¬ (("_told" : Str) = "is_sound") by decide +kernel, show ¬ (("_told" : Str) = "one") by decide +kernel, show ¬ (("_told" : Str) = "other") by decide +kernel, show ¬ (("_told" : Str) = "later") by decide +kernel, show ¬ (("tool" : Str) = "kind") by decide +kernel, show ¬ (("tool" : Str) = "_told") by decide +kernel, show ¬ (("tool" : Str) = "moment") by decide +kernel, show ¬ (("tool" : Str) = "by") by decide +kernel, show ¬ (("tool" : Str) = "is_sound") by decide +kernel, show ¬ (("tool" : Str) = "one") by decide +kernel, show ¬ (("tool" : Str) = "other") by decide +kernel, show ¬ (("tool" : Str) = "later") by decide +kernel, show ¬ (("moment" : Str) = "kind") by decide +kernel, show ¬ (("moment" : Str) = "_told") by decide +kernel, show ¬ (("moment" : Str) = "tool") by decide +kernel, show ¬ (("moment" : Str) = "by") by decide +kernel, show ¬ (("moment" : Str) = "is_sound") by decide +kernel, show ¬ (("moment" : Str) = "one") by decide +kernel, show ¬ (("moment" : Str) = "other") by decide +kernel, show ¬ (("moment" : Str) = "later") by decide +kernel, show ¬ (("by" : Str) = "kind") by decide +kernel, show ¬ (("by" : Str) = "_told") by decide +kernel, show ¬ (("by" : Str) = "tool") by decide +kernel, show ¬ (("by" : Str) = "moment") by decide +kernel, show ¬ (("by" : Str) = "is_sound") by decide +kernel, show ¬ (("by" : Str) = "one") by decide +kernel, show ¬ (("by" : Str) = "other") by decide +kernel, show ¬ (("by" : Str) = "later") by decide +kernel, show ¬ (("is_sound" : Str) = "kind") by decide +kernel, show ¬ (("is_sound" : Str) = "_told") by decide +kernel, show ¬ (("is_sound" : Str) = "tool") by decide +kernel, show ¬ (("is_sound" : Str) = "moment") by decide +kernel, show ¬ (("is_sound" : Str) = "by") by decide +kernel, show ¬ (("is_sound" : Str) = "one") by decide +kernel, show ¬ (("is_sound" : Str) = "other") by decide +kernel, show ¬ (("is_sound" : Str) = "later") by decide +kernel, show ¬ (("one" : Str) = "kind") by decide +kernel, show ¬ (("one" : Str) = "_told") by decide +kernel, show ¬ (("one" : Str) = "tool") by decide +kernel, show ¬ (("one" : Str) = "moment") by decide +kernel, show ¬ (("one" : Str) = "by") by decide +kernel, show ¬ (("one" : Str) = "is_sound") by decide +kernel, show ¬ (("one" : Str) = "other") by decide +kernel, show ¬ (("one" : Str) = "later") by decide +kernel, show ¬ (("other" : Str) = "kind") by decide +kernel, show ¬ (("other" : Str) = "_told") by decide +kernel, show ¬ (("other" : Str) = "tool") by decide +kernel, show ¬ (("other" : Str) = "moment") by decide +kernel, show ¬ (("other" : Str) = "by") by decide +kernel, show ¬ (("other" : Str) = "is_sound") by decide +kernel, show ¬ (("other" : Str) = "one") by decide +kernel, show ¬ (("other" : Str) = "later") by decide +kernel, show ¬ (("later" : Str) = "kind") by decide +kernel, show ¬ (("later" : Str) = "_told") by decide +kernel, show ¬ (("later" : Str) = "tool") by decide +kernel, show ¬ (("later" : Str) = "moment") by decide +kernel, show ¬ (("later" : Str) = "by") by decide +kernel, show ¬ (("later" : Str) = "is_sound") by decide +kernel, show ¬ (("later" : Str) = "one") by decide +kernel, show ¬ (("later" : Str) = "other") by decide +kernel, if_true, if_false]
      · simp only [lookup_putF, show ¬ (("kind" : Str) = "_told") by decide +kernel, show ¬ (("kind" : Str) = "tool") by decide +kernel, show ¬ (("kind" : Str) = "moment") by decide +kernel, show ¬ (("kind" : Str) = "by") by decide +kernel, show ¬ (("kind" : Str) = "is_sound") by decide +kernel, show ¬ (("kind" : Str) = "one") by decide +kernel, show ¬ (("kind" : Str) = "other") by decide +kernel, show ¬ (("kind" : Str) = "later") by decide +kernel, show ¬ (("_told" : Str) = "kind") by decide +kernel, show ¬ (("_told" : Str) = "tool") by decide +kernel, show ¬ (("_told" : Str) = "moment") by decide +kernel, show ¬ (("_told" : Str) = "by") by decide +kernel, show ¬ (("_told" : Str) = "is_sound") by decide +kernel, show ¬ (("_told" : Str) = "one") by decide +kernel, show ¬ (("_told" : Str) = "other") by decide +kernel, show ¬ (("_told" : Str) = "later") by decide +kernel, show ¬ (("tool" : Str) = "kind") by decide +kernel, show ¬ (("tool" : Str) = "_told") by decide +kernel, show ¬ (("tool" : Str) = "moment") by decide +kernel, show ¬ (("tool" : Str) = "by") by decide +kernel, show ¬ (("tool" : Str) = "is_sound") by decide +kernel, show ¬ (("tool" : Str) = "one") by decide +kernel, show ¬ (("tool" : Str) = "other") by decide +kernel, show ¬ (("tool" : Str) = "later") by decide +kernel, show ¬ (("moment" : Str) = "kind") by decide +kernel, show ¬ (("moment" : Str) = "_told") by decide +kernel, show ¬ (("moment" : Str) = "tool") by decide +kernel, show ¬ (("moment" : Str) = "by") by decide +kernel, show ¬ (("moment" : Str) = "is_sound") by decide +kernel, show ¬ (("moment" : Str) = "one") by decide +kernel, show ¬ (("moment" : Str) = "other") by decide +kernel, show ¬ (("moment" : Str) = "later") by decide +kernel, show ¬ (("by" : Str) = "kind") by decide +kernel, show ¬ (("by" : Str) = "_told") by decide +kernel, show ¬ (("by" : Str) = "tool") by decide +kernel, show ¬ (("by" : Str) = "moment") by decide +kernel, show ¬ (("by" : Str) = "is_sound") by decide +kernel, show ¬ (("by" : Str) = "one") by decide +kernel, show ¬ (("by" : Str) = "other") by decide +kernel, show ¬ (("by" : Str) = "later") by decide +kernel, show ¬ (("is_sound" : Str) = "kind") by decide +kernel, show ¬ (("is_sound" : Str) = "_told") by decide +kernel, show ¬ (("is_sound" : Str) = "tool") by decide +kernel, show ¬ (("is_sound" : Str) = "moment") by decide +kernel, show ¬ (("is_sound" : Str) = "by") by decide +kernel, show ¬ (("is_sound" : Str) = "one") by decide +kernel, show ¬ (("is_sound" : Str) = "other") by decide +kernel, show ¬ (("is_sound" : Str) = "later") by decide +kernel, show ¬ (("one" : Str) = "kind") by decide +kernel, show ¬ (("one" : Str) = "_told") by decide +kernel, show ¬ (("one" : Str) = "tool") by decide +kernel, show ¬ (("one" : Str) = "moment") by decide +kernel, show ¬ (("one" : Str) = "by") by decide +kernel, show ¬ (("one" : Str) = "is_sound") by decide +kernel, show ¬ (("one" : Str) = "other") by decide +kernel, show ¬ (("one" : Str) = "later") by decide +kernel, show ¬ (("other" : Str) = "kind") by decide +kernel, show ¬ (("other" : Str) = "_told") by decide +kernel, show ¬ (("other" : Str) = "tool") by decide +kernel, show ¬ (("other" : Str) = "moment") by decide +kernel, show ¬ (("other" : Str) = "by") by decide +kernel, show ¬ (("other" : Str) = "is_sound") by decide +kernel, show ¬ (("other" : Str) = "one") by decide +kernel, show ¬ (("other" : Str) = "later") by decide +kernel, show ¬ (("later" : Str) = "kind") by decide +kernel, show ¬ (("later" : Str) = "_told") by decide +kernel, show ¬ (("later" : Str) = "tool") by decide +kernel, show ¬ (("later" : Str) = "moment") by decide +kernel, show ¬ (("later" : Str) = "by") by decide +kernel, show ¬ (("later" : Str) = "is_sound") by decide +kernel, show ¬ (("later" : Str) = "one") by decide +kernel, show ¬ (("later" : Str) = "other") by decide +kernel, if_true, if_false]
      · repeat rw [upd_ne ntp]
        exact etp
      · rw [attrs_meet kind hk]
        simp only [List.zip_cons_cons, List.zip_nil_right, List.forall_mem_cons]
        refine ⟨(by simp only [lookup_putF, show ¬ (("kind" : Str) = "_told") by decide +kernel, show ¬ (("kind" : Str) = "tool") by decide +kernel, show ¬ (("kind" : Str) = "moment") by decide +kernel, show ¬ (("kind" : Str) = "by") by decide +kernel, show ¬ (("kind" : Str) = "is_sound") by decide +kernel, show ¬ (("kind" : Str) = "one") by decide +kernel, show ¬ (("kind" : Str) = "other") by decide +kernel, show ¬ (("kind" : Str) = "later") by decide +kernel, show ¬ (("_told" : Str) = "kind") by decide +kernel, show ¬ (("_told" : Str) = "tool") by decide +kernel, show ¬ (("_told" : Str) = "moment") by decide +kernel, show ¬ (("_told" : Str) = "by") by decide +kernel, show ¬ (("_told" : Str) = "is_sound") by decide +kernel, show ¬ (("_told" : Str) = "one") by decide +kernel, show ¬ (("_told" : Str) = "other") by decide +kernel, show ¬ (("_told" : Str) = "later") by decide +kernel, show ¬ (("tool" : Str) = "kind") by decide +kernel, show ¬ (("tool" : Str) = "_told") by decide +kernel, show ¬ (("tool" : Str) = "moment") by decide +kernel, show ¬ (("tool" : Str) = "by") by decide +kernel, show ¬ (("tool" : Str) = "is_sound") by decide +kernel, show ¬ (("tool" : Str) = "one") by decide +kernel, show ¬ (("tool" : Str) = "other") by decide +kernel, show ¬ (("tool" : Str) = "later") by decide +kernel, show ¬ (("moment" : Str) = "kind") by decide +kernel, show ¬ (("moment" : Str) = "_told") by decide +kernel, show ¬ (("moment" : Str) = "tool") by decide +kernel, show ¬ (("moment" : Str) = "by") by decide +kernel, show ¬ (("moment" : Str) = "is_sound") by decide +kernel, show ¬ (("moment" : Str) = "one") by decide +kernel, show ¬ (("moment" : Str) = "other") by decide +kernel, show ¬ (("moment" : Str) = "later") by decide +kernel, show ¬ (("by" : Str) = "kind") by decide +kernel, show ¬ (("by" : Str) = "_told") by decide +kernel, show ¬ (("by" : Str) = "tool") by decide +kernel, show ¬ (("by" : Str) = "moment") by decide +kernel, show ¬ (("by" : Str) = "is_sound") by decide +kernel, show ¬ (("by" : Str) = "one") by decide +kernel, show ¬ (("by" : Str) = "other") by decide +kernel, show ¬ (("by" : Str) = "later") by decide +kernel, show ¬ (("is_sound" : Str) = "kind") by decide +kernel, show ¬ (("is_sound" : Str) = "_told") by decide +kernel, show ¬ (("is_sound" : Str) = "tool") by decide +kernel, show ¬ (("is_sound" : Str) = "moment") by decide +kernel, show ¬ (("is_sound" : Str) = "by") by decide +kernel, show ¬ (("is_sound" : Str) = "one") by decide +kernel, show ¬ (("is_sound" : Str) = "other") by decide +kernel, show ¬ (("is_sound" : Str) = "later") by decide +kernel, show ¬ (("one" : Str) = "kind") by decide +kernel, show ¬ (("one" : Str) = "_told") by decide +kernel, show ¬ (("one" : Str) = "tool") by decide +kernel, show ¬ (("one" : Str) = "moment") by decide +kernel, show ¬ (("one" : Str) = "by") by decide +kernel, show ¬ (("one" : Str) = "is_sound") by decide +kernel, show ¬ (("one" : Str) = "other") by decide +kernel, show ¬ (("one" : Str) = "later") by decide +kernel, show ¬ (("other" : Str) = "kind") by decide +kernel, show ¬ (("other" : Str) = "_told") by decide +kernel, show ¬ (("other" : Str) = "tool") by decide +kernel, show ¬ (("other" : Str) = "moment") by decide +kernel, show ¬ (("other" : Str) = "by") by decide +kernel, show ¬ (("other" : Str) = "is_sound") by decide +kernel, show ¬ (("other" : Str) = "one") by decide +kernel, show ¬ (("other" : Str) = "later") by decide +kernel, show ¬ (("later" : Str) = "kind") by decide +kernel, show ¬ (("later" : Str) = "_told") by decide +kernel, show ¬ (("later" : Str) = "tool") by decide +kernel, show ¬ (("later" : Str) = "moment") by decide +kernel, show ¬ (("later" : Str) = "by") by decide +kernel, show ¬ (("later" : Str) = "is_sound") by decide +kernel, show ¬ (("later" : Str) = "one") by decide +kernel, show ¬ (("later" : Str) = "other") by decide +kernel, if_true, if_false]), (by simp only [lookup_putF, show ¬ (("kind" : Str) = "_told") by decide +kernel, show ¬ (("kind" : Str) = "tool") by decide +kernel, show ¬ (("kind" : Str) = "moment") by decide +kernel, show ¬ (("kind" : Str) = "by") by decide +kernel, show ¬ (("kind" : Str) = "is_sound") by decide +kernel, show ¬ (("kind" : Str) = "one") by decide +kernel, show ¬ (("kind" : Str) = "other") by decide +kernel, show ¬ (("kind" : Str) = "later") by decide +kernel, show ¬ (("_told" : Str) = "kind") by decide +kernel, show ¬ (("_told" : Str) = "tool") by decide +kernel, show ¬ (("_told" : Str) = "moment") by decide +kernel, show ¬ (("_told" : Str) = "by") by decide +kernel, show ¬ (("_told" : Str) = "is_sound") by decide +kernel, show ¬ (("_told" : Str) = "one") by decide +kernel, show ¬ (("_told" : Str) = "other") by decide +kernel, show ¬ (("_told" : Str) = "later") by decide +kernel, show ¬ (("tool" : Str) = "kind") by decide +kernel, show ¬ (("tool" : Str) = "_told") by decide +kernel, show ¬ (("tool" : Str) = "moment") by decide +kernel, show ¬ (("tool" : Str) = "by") by decide +kernel, show ¬ (("tool" : Str) = "is_sound") by decide +kernel, show ¬ (("tool" : Str) = "one") by decide +kernel, show ¬ (("tool" : Str) = "other") by decide +kernel, show ¬ (("tool" : Str) = "later") by decide +kernel, show ¬ (("moment" : Str) = "kind") by decide +kernel, show ¬ (("moment" : Str) = "_told") by decide +kernel, show ¬ (("moment" : Str) = "tool") by decide +kernel, show ¬ (("moment" : Str) = "by") by decide +kernel, show ¬ (("moment" : Str) = "is_sound") by decide +kernel, show ¬ (("moment" : Str) = "one") by decide +kernel, show ¬ (("moment" : Str) = "other") by decide +kernel, show ¬ (("moment" : Str) = "later") by decide +kernel, show ¬ (("by" : Str) = "kind") by decide +kernel, show ¬ (("by" : Str) = "_told") by decide +kernel, show ¬ (("by" : Str) = "tool") by decide +kernel, show ¬ (("by" : Str) = "moment") by decide +kernel, show ¬ (("by" : Str) = "is_sound") by decide +kernel, show ¬ (("by" : Str) = "one") by decide +kernel, show ¬ (("by" : Str) = "other") by decide +kernel, show ¬ (("by" : Str) = "later") by decide +kernel, show ¬ (("is_sound" : Str) = "kind") by decide +kernel, show ¬ (("is_sound" : Str) = "_told") by decide +kernel, show ¬ (("is_sound" : Str) = "tool") by decide +kernel, show ¬ (("is_sound" : Str) = "moment") by decide +kernel, show ¬ (("is_sound" : Str) = "by") by decide +kernel, show ¬ (("is_sound" : Str) = "one") by decide +kernel, show ¬ (("is_sound" : Str) = "other") by decide +kernel, show ¬ (("is_sound" : Str) = "later") by decide +kernel, show ¬ (("one" : Str) = "kind") by decide +kernel, show ¬ (("one" : Str) = "_told") by decide +kernel, show ¬ (("one" : Str) = "tool") by decide +kernel, show ¬ (("one" : Str) = "moment") by decide +kernel, show ¬ (("one" : Str) = "by") by decide +kernel, show ¬ (("one" : Str) = "is_sound") by decide +kernel, show ¬ (("one" : Str) = "other") by decide +kernel, show ¬ (("one" : Str) = "later") by decide +kernel, show ¬ (("other" : Str) = "kind") by decide +kernel, show ¬ (("other" : Str) = "_told") by decide +kernel, show ¬ (("other" : Str) = "tool") by decide +kernel, show ¬ (("other" : Str) = "moment") by decide +kernel, show ¬ (("other" : Str) = "by") by decide +kernel, show ¬ (("other" : Str) = "is_sound") by decide +kernel, show ¬ (("other" : Str) = "one") by decide +kernel, show ¬ (("other" : Str) = "later") by decide +kernel, show ¬ (("later" : Str) = "kind") by decide +kernel, show ¬ (("later" : Str) = "_told") by decide +kernel, show ¬ (("later" : Str) = "tool") by decide +kernel, show ¬ (("later" : Str) = "moment") by decide +kernel, show ¬ (("later" : Str) = "by") by decide +kernel, show ¬ (("later" : Str) = "is_sound") by decide +kernel, show ¬ (("later" : Str) = "one") by decide +kernel, show ¬ (("later" : Str) = "other") by decide +kernel, if_true, if_false]), (by simp only [lookup_putF, show ¬ (("kind" : Str) = "_told") by decide +kernel, show ¬ (("kind" : Str) = "tool") by decide +kernel, show ¬ (("kind" : Str) = "moment") by decide +kernel, show ¬ (("kind" : Str) = "by") by decide +kernel, show ¬ (("kind" : Str) = "is_sound") by decide +kernel, show ¬ (("kind" : Str) = "one") by decide +kernel, show ¬ (("kind" : Str) = "other") by decide +kernel, show ¬ (("kind" : Str) = "later") by decide +kernel, show ¬ (("_told" : Str) = "kind") by decide +kernel, show ¬ (("_told" : Str) = "tool") by decide +kernel, show ¬ (("_told" : Str) = "moment") by decide +kernel, show ¬ (("_told" : Str) = "by") by decide +kernel, show ¬ (("_told" : Str) = "is_sound") by decide +kernel, show ¬ (("_told" : Str) = "one") by decide +kernel, show ¬ (("_told" : Str) = "other") by decide +kernel, show ¬ (("_told" : Str) = "later") by decide +kernel, show ¬ (("tool" : Str) = "kind") by decide +kernel, show ¬ (("tool" : Str) = "_told") by decide +kernel, show ¬ (("tool" : Str) = "moment") by decide +kernel, show ¬ (("tool" : Str) = "by") by decide +kernel, show ¬ (("tool" : Str) = "is_sound") by decide +kernel, show ¬ (("tool" : Str) = "one") by decide +kernel, show ¬ (("tool" : Str) = "other") by decide +kernel, show ¬ (("tool" : Str) = "later") by decide +kernel, show ¬ (("moment" : Str) = "kind") by decide +kernel, show ¬ (("moment" : Str) = "_told") by decide +kernel, show ¬ (("moment" : Str) = "tool") by decide +kernel, show ¬ (("moment" : Str) = "by") by decide +kernel, show ¬ (("moment" : Str) = "is_sound") by decide +kernel, show ¬ (("moment" : Str) = "one") by decide +kernel, show ¬ (("moment" : Str) = "other") by decide +kernel, show ¬ (("moment" : Str) = "later") by decide +kernel, show ¬ (("by" : Str) = "kind") by decide +kernel, show ¬ (("by" : Str) = "_told") by decide +kernel, show ¬ (("by" : Str) = "tool") by decide +kernel, show ¬ (("by" : Str) = "moment") by decide +kernel, show ¬ (("by" : Str) = "is_sound") by decide +kernel, show ¬ (("by" : Str) = "one") by decide +kernel, show ¬ (("by" : Str) = "other") by decide +kernel, show ¬ (("by" : Str) = "later") by decide +kernel, show ¬ (("is_sound" : Str) = "kind") by decide +kernel, show ¬ (("is_sound" : Str) = "_told") by decide +kernel, show ¬ (("is_sound" : Str) = "tool") by decide +kernel, show ¬ (("is_sound" : Str) = "moment") by decide +kernel, show ¬ (("is_sound" : Str) = "by") by decide +kernel, show ¬ (("is_sound" : Str) = "one") by decide +kernel, show ¬ (("is_sound" : Str) = "other") by decide +kernel, show ¬ (("is_sound" : Str) = "later") by decide +kernel, show ¬ (("one" : Str) = "kind") by decide +kernel, show ¬ (("one" : Str) = "_told") by decide +kernel, show ¬ (("one" : Str) = "tool") by decide +kernel, show ¬ (("one" : Str) = "moment") by decide +kernel, show ¬ (("one" : Str) = "by") by decide +kernel, show ¬ (("one" : Str) = "is_sound") by decide +kernel, show ¬ (("one" : Str) = "other") by decide +kernel, show ¬ (("one" : Str) = "later") by decide +kernel, show ¬ (("other" : Str) = "kind") by decide +kernel, show ¬ (("other" : Str) = "_told") by decide +kernel, show ¬ (("other" : Str) = "tool") by decide +kernel, show ¬ (("other" : Str) = "moment") by decide +kernel, show ¬ (("other" : Str) = "by") by decide +kernel, show ¬ (("other" : Str) = "is_sound") by decide +kernel, show ¬ (("other" : Str) = "one") by decide +kernel, show ¬ (("other" : Str) = "later") by decide +kernel, show ¬ (("later" : Str) = "kind") by decide +kernel, show ¬ (("later" : Str) = "_told") by decide +kernel, show ¬ (("later" : Str) = "tool") by decide +kernel, show ¬ (("later" : Str) = "moment") by decide +kernel, show ¬ (("later" : Str) = "by") by decide +kernel, show ¬ (("later" : Str) = "is_sound") by decide +kernel, show ¬ (("later" : Str) = "one") by decide +kernel, show ¬ (("later" : Str) = "other") by decide +kernel, if_true, if_false]), (by simp only [lookup_putF, show ¬ (("kind" : Str) = "_told") by decide +kernel, show ¬ (("kind" : Str) = "tool") by decide +kernel, show ¬ (("kind" : Str) = "moment") by decide +kernel, show ¬ (("kind" : Str) = "by") by decide +kernel, show ¬ (("kind" : Str) = "is_sound") by decide +kernel, show ¬ (("kind" : Str) = "one") by decide +kernel, show ¬ (("kind" : Str) = "other") by decide +kernel, show ¬ (("kind" : Str) = "later") by decide +kernel, show ¬ (("_told" : Str) = "kind") by decide +kernel, show ¬ (("_told" : Str) = "tool") by decide +kernel, show ¬ (("_told" : Str) = "moment") by decide +kernel, show ¬ (("_told" : Str) = "by") by decide +kernel, show ¬ (("_told" : Str) = "is_sound") by decide +kernel, show ¬ (("_told" : Str) = "one") by decide +kernel, show ¬ (("_told" : Str) = "other") by decide +kernel, show ¬ (("_told" : Str) = "later") by decide +kernel, show ¬ (("tool" : Str) = "kind") by decide +kernel, show ¬ (("tool" : Str) = "_told") by decide +kernel, show ¬ (("tool" : Str) = "moment") by decide +kernel, show ¬ (("tool" : Str) = "by") by decide +kernel, show ¬ (("tool" : Str) = "is_sound") by decide +kernel, show ¬ (("tool" : Str) = "one") by decide +kernel, show ¬ (("tool" : Str) = "other") by decide +kernel, show ¬ (("tool" : Str) = "later") by decide +kernel, show ¬ (("moment" : Str) = "kind") by decide +kernel, show ¬ (("moment" : Str) = "_told") by decide +kernel, show ¬ (("moment" : Str) = "tool") by decide +kernel, show ¬ (("moment" : Str) = "by") by decide +kernel, show ¬ (("moment" : Str) = "is_sound") by decide +kernel, show ¬ (("moment" : Str) = "one") by decide +kernel, show ¬ (("moment" : Str) = "other") by decide +kernel, show ¬ (("moment" : Str) = "later") by decide +kernel, show ¬ (("by" : Str) = "kind") by decide +kernel, show ¬ (("by" : Str) = "_told") by decide +kernel, show ¬ (("by" : Str) = "tool") by decide +kernel, show ¬ (("by" : Str) = "moment") by decide +kernel, show ¬ (("by" : Str) = "is_sound") by decide +kernel, show ¬ (("by" : Str) = "one") by decide +kernel, show ¬ (("by" : Str) = "other") by decide +kernel, show ¬ (("by" : Str) = "later") by decide +kernel, show ¬ (("is_sound" : Str) = "kind") by decide +kernel, show ¬ (("is_sound" : Str) = "_told") by decide +kernel, show ¬ (("is_sound" : Str) = "tool") by decide +kernel, show ¬ (("is_sound" : Str) = "moment") by decide +kernel, show ¬ (("is_sound" : Str) = "by") by decide +kernel, show ¬ (("is_sound" : Str) = "one") by decide +kernel, show ¬ (("is_sound" : Str) = "other") by decide +kernel, show ¬ (("is_sound" : Str) = "later") by decide +kernel, show ¬ (("one" : Str) = "kind") by decide +kernel, show ¬ (("one" : Str) = "_told") by decide +kernel, show ¬ (("one" : Str) = "tool") by decide +kernel, show ¬ (("one" : Str) = "moment") by decide +kernel, show ¬ (("one" : Str) = "by") by decide +kernel, show ¬ (("one" : Str) = "is_sound") by decide +kernel, show ¬ (("one" : Str) = "other") by decide +kernel, show ¬ (("one" : Str) = "later") by decide +kernel, show ¬ (("other" : Str) = "kind") by decide +kernel, show ¬ (("other" : Str) = "_told") by decide +kernel, show ¬ (("other" : Str) = "tool") by decide +kernel, show ¬ (("other" : Str) = "moment") by decide +kernel, show ¬ (("other" : Str) = "by") by decide +kernel, show ¬ (("other" : Str) = "is_sound") by decide +kernel, show ¬ (("other" : Str) = "one") by decide +kernel, show ¬ (("other" : Str) = "later") by decide +kernel, show ¬ (("later" : Str) = "kind") by decide +kernel, show ¬ (("later" : Str) = "_told") by decide +kernel, show ¬ (("later" : Str) = "tool") by decide +kernel, show ¬ (("later" : Str) = "moment") by decide +kernel, show ¬ (("later" : Str) = "by") by decide +kernel, show ¬ (("later" : Str) = "is_sound") by decide +kernel, show ¬ (("later" : Str) = "one") by decide +kernel, show ¬ (("later" : Str) = "other") by decide +kernel, if_true, if_false]), fun _ h => nomatch h⟩
end
end K13

namespace K13
open PySem PySem.Spec PyProof.Rows L2 So
abbrev sAgreed : Stmt := inClass (topS 42) 0
abbrev sDiffered : Stmt := inClass (topS 43) 0
abbrev sServed : Stmt := inClass (topS 44) 0
abbrev sBacked : Stmt := inClass (topS 45) 0
abbrev metN : List Str := ["self", "one", "moment", "other", "later"]
def supB (sc : Scope) : Bool := decide (sc.kind = .function) && !sc.isCoroutine && !sc.isGenerator && metN.all (fun x => decide (sc.names.lookup x = some .local)) && sc.names.all (fun y => !decide (y.2 = .cell)) && sc.names.all (fun y => !decide (y.2 = .free) || decide (y.1 = "__class__"))
  && decide (sc.names.lookup ("super" : Str) = some .globalImplicit) && decide (sc.names.lookup ("__class__" : Str) = some .free)
theorem supB_ok {sc : Scope} (h : supB sc = true) : SupScope metN sc := by
  unfold supB at h
  simp only [Bool.and_eq_true, Bool.not_eq_true', decide_eq_true_eq, List.all_eq_true, Bool.or_eq_true, decide_eq_false_iff_not] at h
  obtain ⟨⟨⟨⟨⟨⟨⟨h1, h2⟩, h3⟩, h4⟩, h5⟩, h6⟩, h7⟩, h8⟩ := h
  refine ⟨h1, h2, h3, by decide +kernel, h4, h5, fun y hy => ?_, h7, h8⟩
  rcases h6 (y, .free) (PySem.mem_of_lookup hy) with z | z
  · exact absurd rfl z
  · exact z
section
variable {P : Program} {w : World} {K : PySem.W.Frag} {mg : Str → Option Value} {base : Heap}
theorem ok_Agreed {CN CM CS C D cc f fM : Addr} {cd : Value} {fd fdM : FuncData} (F : SupFn K P "__init__" "Agreed.__init__" (defArgs sAgreed) (defBody sAgreed) (defScope sAgreed) D cc f cd fd) (hsup : mg "super" = none) (sub : PySem.W.mroIn K C (.ref D) = some true) (hcl : ∃ cdC, PySem.W.clsIn K C = some cdC)
    (hm : PySem.W.ks_superIn K C D "__init__" = some (some (.ref fM))) (ht : PySem.W.typeIn K (.ref fM) = some (.type "function")) (hfn : PySem.W.fnIn K fM = true) (bM : Binds K fdM ["self", "kind", "one", "moment", "other", "later"] []) (GM : FnOk P w K mg base (L2.CX P w) 5 fM fdM ["self", "kind", "one", "moment", "other", "later"] (spMeet CN CM CS C)) :
    FnOk P w K mg base (L2.CX P w) 6 f fd metN (spRow CN CM CS C "agreed") := by
  have hl4 : (formsOf "agreed").length = 4 := by decide +kernel
  refine (ok_super (C := C) (ps := metN) F (supB_ok (by decide +kernel)) rfl (by rfl) hsup sub hcl hm ht hfn (by decide +kernel) GM bM (fun A outer s H E => pa_cons pe_str (pa_cons (pv 1) (pa_cons (pv 2) (pa_cons (pv 3) (pa_cons (pv 4) pa_nil))))) (fun _ => rfl) (fun _ => rfl) (fun _ => rfl) (fun _ => rfl)).imp fun vs H Q E h => ?_
  obtain ⟨x, dx, xs, rfl, hx, hl, hg, qw⟩ := h
  obtain ⟨v0, v1, v2, v3, rfl⟩ : ∃ v0 v1 v2 v3, xs = [v0, v1, v2, v3] := by
    rw [hl4] at hl
    match xs, hl with
    | [v0, v1, v2, v3], _ => exact ⟨_, _, _, _, rfl⟩
  exact ⟨rfl, x, dx, [], [v0, v1, v2, v3], rfl, hx, _, rfl, _, rfl, _, rfl, _, rfl, x, dx, "agreed", [v0, v1, v2, v3], rfl, by decide +kernel, hx, hl, hg, qw⟩
theorem ok_Differed {CN CM CS C D cc f fM : Addr} {cd : Value} {fd fdM : FuncData} (F : SupFn K P "__init__" "Differed.__init__" (defArgs sDiffered) (defBody sDiffered) (defScope sDiffered) D cc f cd fd) (hsup : mg "super" = none) (sub : PySem.W.mroIn K C (.ref D) = some true) (hcl : ∃ cdC, PySem.W.clsIn K C = some cdC)
    (hm : PySem.W.ks_superIn K C D "__init__" = some (some (.ref fM))) (ht : PySem.W.typeIn K (.ref fM) = some (.type "function")) (hfn : PySem.W.fnIn K fM = true) (bM : Binds K fdM ["self", "kind", "one", "moment", "other", "later"] []) (GM : FnOk P w K mg base (L2.CX P w) 5 fM fdM ["self", "kind", "one", "moment", "other", "later"] (spMeet CN CM CS C)) :
    FnOk P w K mg base (L2.CX P w) 6 f fd metN (spRow CN CM CS C "differed") := by
  have hl4 : (formsOf "differed").length = 4 := by decide +kernel
  refine (ok_super (C := C) (ps := metN) F (supB_ok (by decide +kernel)) rfl (by rfl) hsup sub hcl hm ht hfn (by decide +kernel) GM bM (fun A outer s H E => pa_cons pe_str (pa_cons (pv 1) (pa_cons (pv 2) (pa_cons (pv 3) (pa_cons (pv 4) pa_nil))))) (fun _ => rfl) (fun _ => rfl) (fun _ => rfl) (fun _ => rfl)).imp fun vs H Q E h => ?_
  obtain ⟨x, dx, xs, rfl, hx, hl, hg, qw⟩ := h
  obtain ⟨v0, v1, v2, v3, rfl⟩ : ∃ v0 v1 v2 v3, xs = [v0, v1, v2, v3] := by
    rw [hl4] at hl
    match xs, hl with
    | [v0, v1, v2, v3], _ => exact ⟨_, _, _, _, rfl⟩
  exact ⟨rfl, x, dx, [], [v0, v1, v2, v3], rfl, hx, _, rfl, _, rfl, _, rfl, _, rfl, x, dx, "differed", [v0, v1, v2, v3], rfl, by decide +kernel, hx, hl, hg, qw⟩
theorem ok_Served {CN CM CS C D cc f fM : Addr} {cd : Value} {fd fdM : FuncData} (F : SupFn K P "__init__" "Served.__init__" (defArgs sServed) (defBody sServed) (defScope sServed) D cc f cd fd) (hsup : mg "super" = none) (sub : PySem.W.mroIn K C (.ref D) = some true) (hcl : ∃ cdC, PySem.W.clsIn K C = some cdC)
    (hm : PySem.W.ks_superIn K C D "__init__" = some (some (.ref fM))) (ht : PySem.W.typeIn K (.ref fM) = some (.type "function")) (hfn : PySem.W.fnIn K fM = true) (bM : Binds K fdM ["self", "kind", "one", "moment", "other", "later"] []) (GM : FnOk P w K mg base (L2.CX P w) 5 fM fdM ["self", "kind", "one", "moment", "other", "later"] (spMeet CN CM CS C)) :
    FnOk P w K mg base (L2.CX P w) 6 f fd metN (spRow CN CM CS C "served") := by
  have hl4 : (formsOf "served").length = 4 := by decide +kernel
  refine (ok_super (C := C) (ps := metN) F (supB_ok (by decide +kernel)) rfl (by rfl) hsup sub hcl hm ht hfn (by decide +kernel) GM bM (fun A outer s H E => pa_cons pe_str (pa_cons (pv 1) (pa_cons (pv 2) (pa_cons (pv 3) (pa_cons (pv 4) pa_nil))))) (fun _ => rfl) (fun _ => rfl) (fun _ => rfl) (fun _ => rfl)).imp fun vs H Q E h => ?_
  obtain ⟨x, dx, xs, rfl, hx, hl, hg, qw⟩ := h
  obtain ⟨v0, v1, v2, v3, rfl⟩ : ∃ v0 v1 v2 v3, xs = [v0, v1, v2, v3] := by
    rw [hl4] at hl
    match xs, hl with
    | [v0, v1, v2, v3], _ => exact ⟨_, _, _, _, rfl⟩
  exact ⟨rfl, x, dx, [], [v0, v1, v2, v3], rfl, hx, _, rfl, _, rfl, _, rfl, _, rfl, x, dx, "served", [v0, v1, v2, v3], rfl, by decide +kernel, hx, hl, hg, qw⟩
theorem ok_Backed {CN CM CS C D cc f fM : Addr} {cd : Value} {fd fdM : FuncData} (F : SupFn K P "__init__" "Backed.__init__" (defArgs sBacked) (defBody sBacked) (defScope sBacked) D cc f cd fd) (hsup : mg "super" = none) (sub : PySem.W.mroIn K C (.ref D) = some true) (hcl : ∃ cdC, PySem.W.clsIn K C = some cdC)
    (hm : PySem.W.ks_superIn K C D "__init__" = some (some (.ref fM))) (ht : PySem.W.typeIn K (.ref fM) = some (.type "function")) (hfn : PySem.W.fnIn K fM = true) (bM : Binds K fdM ["self", "kind", "one", "moment", "other", "later"] []) (GM : FnOk P w K mg base (L2.CX P w) 5 fM fdM ["self", "kind", "one", "moment", "other", "later"] (spMeet CN CM CS C)) :
    FnOk P w K mg base (L2.CX P w) 6 f fd metN (spRow CN CM CS C "backed") := by
  have hl4 : (formsOf "backed").length = 4 := by decide +kernel
  refine (ok_super (C := C) (ps := metN) F (supB_ok (by decide +kernel)) rfl (by rfl) hsup sub hcl hm ht hfn (by decide +kernel) GM bM (fun A outer s H E => pa_cons pe_str (pa_cons (pv 1) (pa_cons (pv 2) (pa_cons (pv 3) (pa_cons (pv 4) pa_nil))))) (fun _ => rfl) (fun _ => rfl) (fun _ => rfl) (fun _ => rfl)).imp fun vs H Q E h => ?_
  obtain ⟨x, dx, xs, rfl, hx, hl, hg, qw⟩ := h
  obtain ⟨v0, v1, v2, v3, rfl⟩ : ∃ v0 v1 v2 v3, xs = [v0, v1, v2, v3] := by
    rw [hl4] at hl
    match xs, hl with
    | [v0, v1, v2, v3], _ => exact ⟨_, _, _, _, rfl⟩
  exact ⟨rfl, x, dx, [], [v0, v1, v2, v3], rfl, hx, _, rfl, _, rfl, _, rfl, _, rfl, x, dx, "backed", [v0, v1, v2, v3], rfl, by decide +kernel, hx, hl, hg, qw⟩
end
end K13

/-! repr of data with dicts: each thing's text built by itself, so that no more is asked of an address than that a dict is not the modules' own. -/
namespace So
open PySem PySem.Spec PyProof.Rows L2
mutual
/-- a value is this data; dicts with texts as keys may stand in it -/
inductive Dd (K : PySem.W.Frag) (H : Hp) : V → PyData → Prop
  | non : Dd K H .non .none
  | bl (b : Bool) : Dd K H (.bl b) (.bool b)
  | int (i : Int) : Dd K H (.int i) (.int i)
  | str (x : Str) : Dd K H (.str x) (.str x)
  | lst {a : Addr} {xs : List V} {ds : List PyData} (e : SqL K H a xs) (h : DdAll K H xs ds) : Dd K H (.ref a) (.list ds)
  | tup {a : Addr} {xs : List V} {ds : List PyData} (e : SqT K H a xs) (h : DdAll K H xs ds) : Dd K H (.ref a) (.tuple ds)
  | dct {a : Addr} {kvs : List (Key × V)} {ds : List (PyData × PyData)} (e : H a = some (.dK kvs)) (h : DdKv K H kvs ds) : Dd K H (.ref a) (.dict ds)
inductive DdAll (K : PySem.W.Frag) (H : Hp) : List V → List PyData → Prop
  | nil : DdAll K H [] []
  | cons {v : V} {vs : List V} {d : PyData} {ds : List PyData} (h : Dd K H v d) (t : DdAll K H vs ds) : DdAll K H (v :: vs) (d :: ds)
inductive DdKv (K : PySem.W.Frag) (H : Hp) : List (Key × V) → List (PyData × PyData) → Prop
  | nil : DdKv K H [] []
  | cons {k : Str} {v : V} {r : List (Key × V)} {d : PyData} {ds : List (PyData × PyData)} (h : Dd K H v d) (t : DdKv K H r ds) : DdKv K H ((Sum.inr k, v) :: r) ((.str k, d) :: ds)
end
section
variable {X : Cx} {pins : List (Addr × Obj)} {σ : L2.St} {H : Hp} {s : Shared}
/-- a thing in memory that shows so -/
def ShK (X : Cx) (h : Heap) (u : Value) (d : PyData) : Prop := ∃ as bs, Reads h u d as ∧ ReadAtMost h d.depth bs ∧ ReprK X.prog X.w bs h d.depth u d.shown
def ShAll (X : Cx) (h : Heap) (us : List Value) (ds : List PyData) : Prop := ∃ as bs, ReadsAll h us ds as ∧ ReadAtMost h (PyData.depthAll ds) bs ∧ ReprAllK X.prog X.w bs h (PyData.depthAll ds) us (PyData.shownAll ds)
theorem shAll_cons {h : Heap} {u : Value} {us : List Value} {d : PyData} {ds : List PyData} (a : ShK X h u d) (b : ShAll X h us ds) : ShAll X h (u :: us) (d :: ds) := by
  obtain ⟨as1, b1, r1, hb1, k1⟩ := a
  obtain ⟨as2, b2, r2, hb2, k2⟩ := b
  refine ⟨_, b1 ++ b2, .cons r1 r2, ?_, ?_⟩
  · intro b hm
    simp only [PyData.depthAll]
    rcases List.mem_append.mp hm with hm | hm
    · obtain ⟨d', as', r', hd'⟩ := hb1 b hm
      exact ⟨d', as', r', Nat.le_trans hd' (Nat.le_max_left _ _)⟩
    · obtain ⟨d', as', r', hd'⟩ := hb2 b hm
      exact ⟨d', as', r', Nat.le_trans hd' (Nat.le_max_right _ _)⟩
  · simp only [PyData.depthAll, PyData.shownAll]
    exact .cons ((k1.more fun b hb => List.mem_append_left _ hb).level_le (Nat.le_max_left _ _)) (k2.more_le (fun b hb => List.mem_append_right _ hb) (Nat.le_max_right _ _))
theorem shAll_nil {h : Heap} : ShAll X h [] [] := ⟨_, [], .nil, (fun _ h => nomatch h), by simp only [PyData.shownAll]; exact .nil⟩
mutual
theorem Dd.sh (I : Inv X pins σ H s) : ∀ (d : PyData) (v : V) (u : Value), Dd X.K H v d → RelV v u → d.showable = true → d.shown.length ≤ sizeLine → ShK X s.heap u d
  | .none, _, _, h, r, _, _ => by
    cases h
    cases r
    exact ⟨_, [], .none, (fun _ h => nomatch h), by simp only [PyData.shown]; exact .of_is ReprIs.none _ _ _⟩
  | .bool b, _, _, h, r, _, _ => by
    cases h
    cases r
    exact ⟨_, [], .bool b, (fun _ h => nomatch h), by simp only [PyData.shown]; exact .of_is (ReprIs.bool b) _ _ _⟩
  | .int i, _, _, h, r, hs, _ => by
    cases h
    obtain ⟨t, rfl⟩ := r
    exact ⟨_, [], .int i t, (fun _ h => nomatch h), by simp only [PyData.shown]; exact .of_is (ReprIs.int t (by simpa [PyData.showable] using hs)) _ _ _⟩
  | .str x, _, _, h, r, _, hz => by
    cases h
    obtain ⟨t, rfl⟩ := r
    exact ⟨_, [], .str x t, (fun _ h => nomatch h), by simp only [PyData.shown]; exact .of_is (ReprIs.str x t (by simpa only [PyData.shown] using hz)) _ _ _⟩
  | .list ds, _, _, h, r, hs, hz => by
    cases h with
    | @lst a xs _ e hall =>
      cases r
      have hz' : (listText (PyData.shownAll ds)).length ≤ sizeLine := by simpa only [PyData.shown] using hz
      obtain ⟨its, rv, ⟨o, n, h1, h2, _, h3⟩, _⟩ := I.list e
      obtain ⟨as, bs, rd, hb, hk⟩ := DdAll.sh I ds xs its hall rv (by simpa [PyData.showable] using hs) (fun t ht => Nat.le_trans (listText_mem_le ht) hz')
      have rr : Reads s.heap (.ref a) (.list ds) _ := .list h1 h2 h3 rd
      have hna : a ∉ bs := not_mem_of_deeper rr (by simp only [PyData.depth]; omega) hb
      refine ⟨_, a :: bs, rr, ReadAtMost.cons rr (by simp only [PyData.depth]; omega) hb, ?_⟩
      simp only [PyData.depth, PyData.shown]
      cases its with
      | nil =>
        cases rd
        simp only [PyData.shownAll, listText_nil]
        exact ReprK.listEmpty h1 h2 h3
      | cons x l => exact ReprK.list h1 h2 h3 hna (by simpa using hk.length_eq) (fun i y e => hk.item i y (by simpa using e))
  | .tuple ds, _, _, h, r, hs, hz => by
    cases h with
    | @tup a xs _ e hall =>
      cases r
      have hz' : (tupleText (PyData.shownAll ds)).length ≤ sizeLine := by simpa only [PyData.shown] using hz
      obtain ⟨its, rv, ⟨o, h1, h2, n, h3⟩, _⟩ := I.tuple e
      obtain ⟨as, bs, rd, hb, hk⟩ := DdAll.sh I ds xs its hall rv (by simpa [PyData.showable] using hs) (fun t ht => Nat.le_trans (tupleText_mem_le ht) hz')
      have rr : Reads s.heap (.ref a) (.tuple ds) _ := .tuple h1 h2 h3 rd
      have hna : a ∉ bs := not_mem_of_deeper rr (by simp only [PyData.depth]; omega) hb
      refine ⟨_, a :: bs, rr, ReadAtMost.cons rr (by simp only [PyData.depth]; omega) hb, ?_⟩
      simp only [PyData.depth, PyData.shown]
      exact ReprK.tuple h1 h2 h3 hna hk
  | .dict ds, _, _, h, r, hs, hz => by
    cases h with
    | @dct a kvs _ e hall =>
      cases r
      have hz' : (dictText (PyData.shownKv ds)).length ≤ sizeLine := by simpa only [PyData.shown] using hz
      obtain ⟨_, hsys, vs, hk, hD⟩ : kvs.length ≤ sizeLine ∧ (a == sysModules) = false ∧ ∃ vs, KV kvs vs ∧ s.heap.DictOf (mixKind X.prog X.w) a vs := I.hok a _ e
      obtain ⟨o, es, ep, h1, h2, h3, _, e5, _⟩ := hD
      obtain ⟨hs1, hs2⟩ := PyData.showableKv_split ds (by simpa [PyData.showable] using hs)
      obtain ⟨⟨as1, b1, r1, hb1, k1⟩, as2, b2, r2, hb2, k2⟩ := DdKv.sh I ds kvs vs es.toList hall hk e5 hs1 hs2
        (fun t ht => let ⟨p, hp, hl⟩ := PyData.shownKv_key_le ds t ht; Nat.le_trans hl (Nat.le_trans (dictText_mem_le hp) hz')) (fun t ht => let ⟨p, hp, hl⟩ := PyData.shownKv_val_le ds t ht; Nat.le_trans hl (Nat.le_trans (dictText_mem_le hp) hz'))
      have rr : Reads s.heap (.ref a) (.dict ds) _ := .dict h1 h2.1 h3 r1 r2
      have hb : ReadAtMost s.heap (PyData.depthKv ds) (b1 ++ b2) := (hb1.mono (PyData.depthAll_keys_le ds)).append (hb2.mono (PyData.depthAll_vals_le ds))
      have hna : a ∉ b1 ++ b2 := not_mem_of_deeper rr (by simp only [PyData.depth]; omega) hb
      refine ⟨_, a :: (b1 ++ b2), rr, ReadAtMost.cons rr (by simp only [PyData.depth]; omega) hb, ?_⟩
      simp only [PyData.depth, PyData.shown, PyData.shownKv_eq]
      exact ReprK.dict h1 h2.1 h3 hsys hna (ReprEntriesK.of_two es.toList _ _
        (k1.more_le (fun b hb => List.mem_append_left _ hb) (PyData.depthAll_keys_le ds)) (k2.more_le (fun b hb => List.mem_append_right _ hb) (PyData.depthAll_vals_le ds)))
theorem DdAll.sh (I : Inv X pins σ H s) : ∀ (ds : List PyData) (vs : List V) (us : List Value), DdAll X.K H vs ds → Vals vs us → PyData.showableAll ds = true → (∀ t ∈ PyData.shownAll ds, t.length ≤ sizeLine) → ShAll X s.heap us ds
  | [], _, _, h, r, _, _ => by
    cases h
    cases r
    exact shAll_nil
  | d :: ds, _, _, h, r, hs, hz => by
    cases h with
    | cons h1 h2 =>
      cases r with
      | cons r1 r2 =>
        have hs' : d.showable = true ∧ PyData.showableAll ds = true := by simpa [PyData.showableAll] using hs
        exact shAll_cons (Dd.sh I d _ _ h1 r1 hs'.1 (hz _ (by simp only [PyData.shownAll]; exact List.mem_cons_self ..))) (DdAll.sh I ds _ _ h2 r2 hs'.2 fun t ht => hz t (by simp only [PyData.shownAll]; exact List.mem_cons_of_mem _ ht))
theorem DdKv.sh (I : Inv X pins σ H s) : ∀ (ds : List (PyData × PyData)) (kvs : List (Key × V)) (vs : List (Key × Value)) (es : List DictEntry), DdKv X.K H kvs ds → KV kvs vs → Pairs (mixKind X.prog X.w) es vs → PyData.showableAll (ds.map (·.1)) = true → PyData.showableAll (ds.map (·.2)) = true →
    (∀ t ∈ PyData.shownAll (ds.map (·.1)), t.length ≤ sizeLine) → (∀ t ∈ PyData.shownAll (ds.map (·.2)), t.length ≤ sizeLine) → ShAll X s.heap (es.map (·.key)) (ds.map (·.1)) ∧ ShAll X s.heap (es.map (·.val)) (ds.map (·.2))
  | [], _, _, _, h, hk, hp, _, _, _, _ => by
    cases h
    cases hk
    cases hp
    exact ⟨shAll_nil, shAll_nil⟩
  | (dk, dv) :: ds, _, _, _, h, hk, hp, hs1, hs2, z1, z2 => by
    cases h with
    | @cons k v r _ _ h1 h2 =>
      cases hk with
      | @cons _ kv _ _ hk1 hk2 =>
        obtain ⟨kk, kval⟩ := kv
        obtain ⟨q1, q2⟩ := hk1
        simp only at q1 q2
        subst q1
        cases hp with
        | @cons en _ es' _ p1 p2 p3 =>
          have hs1' : (PyData.str k).showable = true ∧ PyData.showableAll (ds.map (·.1)) = true := by simpa [PyData.showableAll] using hs1
          have hs2' : dv.showable = true ∧ PyData.showableAll (ds.map (·.2)) = true := by simpa [PyData.showableAll] using hs2
          have hz1 : (PyData.str k).shown.length ≤ sizeLine := z1 _ (by simp only [List.map_cons, PyData.shownAll]; exact List.mem_cons_self ..)
          have hz2 : dv.shown.length ≤ sizeLine := z2 _ (by simp only [List.map_cons, PyData.shownAll]; exact List.mem_cons_self ..)
          obtain ⟨c1, c2⟩ := DdKv.sh I ds _ _ _ h2 hk2 p3 hs1'.2 hs2'.2 (fun t ht => z1 t (by simp only [List.map_cons, PyData.shownAll]; exact List.mem_cons_of_mem _ ht)) (fun t ht => z2 t (by simp only [List.map_cons, PyData.shownAll]; exact List.mem_cons_of_mem _ ht))
          simp only at p2
          refine ⟨?_, ?_⟩
          · rcases keyIs_shape (show keyIs (Sum.inr k) en.key = true from p1) with ⟨j, t3, z, _⟩ | ⟨y, t3, z, ez⟩
            · cases z
            · cases z
              simp only [List.map_cons]
              refine shAll_cons ?_ c1
              rw [ez]
              exact ⟨_, [], .str k t3, (fun _ h => nomatch h), by simp only [PyData.shown]; exact .of_is (ReprIs.str k t3 (by simpa only [PyData.shown] using hz1)) _ _ _⟩
          · simp only [List.map_cons]
            rw [p2]
            exact shAll_cons (Dd.sh I dv v _ h1 q2 hs2'.1 hz2) c2
end
/-- such a thing is shown by its own type -/
theorem Dd.shows (I : Inv X pins σ H s) {a : Addr} {d : PyData} (h : Dd X.K H (.ref a) d) (hs : d.showable = true) (hz : d.shown.length ≤ sizeLine) : ∃ T idr, ShowsBy X.prog X.w s.heap a d T idr := by
  cases h with
  | @lst _ xs ds e hall =>
    have hz' : (listText (PyData.shownAll ds)).length ≤ sizeLine := by simpa only [PyData.shown] using hz
    obtain ⟨its, rv, ⟨o, n, h1, h2, _, h3⟩, _⟩ := I.list e
    obtain ⟨as, bs, rd, hb, hk⟩ := DdAll.sh I ds xs its hall rv (by simpa [PyData.showable] using hs) (fun t ht => Nat.le_trans (listText_mem_le ht) hz')
    have rr : Reads s.heap (.ref a) (.list ds) _ := .list h1 h2 h3 rd
    have hna : a ∉ bs := not_mem_of_deeper rr (by simp only [PyData.depth]; omega) hb
    refine ⟨"list", "list.__repr__", F.slot_list_repr.toG, F.slot_list_str, F.slot_list_format, fun s' hk0 => ⟨o, hk0 _ _ h1, h2⟩, fun A E s' Q hg hu hk0 hQ => ?_⟩
    simp only [PyData.depth] at hu
    simp only [PyData.shown] at hQ
    cases its with
    | nil =>
      cases rd
      simp only [PyData.shownAll, listText_nil] at hQ
      exact call_list_repr_empty ⟨o, hk0 _ _ h1, h2⟩ (hk0 _ _ h1) h3 (hQ s'.heap _ _ fun _ _ e => e)
    | cons x l => exact call_list_reprK h1 h2 h3 hna (by simpa using hk.length_eq) (fun i y e => hk.item i y (by simpa using e)) hg (fun b _ => Clear.nil b) hu hk0 hQ hz'
  | @tup _ xs ds e hall =>
    have hz' : (tupleText (PyData.shownAll ds)).length ≤ sizeLine := by simpa only [PyData.shown] using hz
    obtain ⟨its, rv, ⟨o, h1, h2, n, h3⟩, _⟩ := I.tuple e
    obtain ⟨as, bs, rd, hb, hk⟩ := DdAll.sh I ds xs its hall rv (by simpa [PyData.showable] using hs) (fun t ht => Nat.le_trans (tupleText_mem_le ht) hz')
    have rr : Reads s.heap (.ref a) (.tuple ds) _ := .tuple h1 h2 h3 rd
    have hna : a ∉ bs := not_mem_of_deeper rr (by simp only [PyData.depth]; omega) hb
    refine ⟨"tuple", "tuple.__repr__", F.slot_tuple_repr, F.slot_tuple_str, F.slot_tuple_format, fun s' hk0 => ⟨o, hk0 _ _ h1, h2⟩, fun A E s' Q hg hu hk0 hQ => ?_⟩
    simp only [PyData.depth] at hu
    simp only [PyData.shown] at hQ
    exact call_tuple_reprK h1 h2 h3 hna hk hg (fun b _ => Clear.nil b) hu hk0 hQ hz'
  | @dct _ kvs ds e hall =>
    have hz' : (dictText (PyData.shownKv ds)).length ≤ sizeLine := by simpa only [PyData.shown] using hz
    obtain ⟨_, hsys, vs, hk, hD⟩ : kvs.length ≤ sizeLine ∧ (a == sysModules) = false ∧ ∃ vs, KV kvs vs ∧ s.heap.DictOf (mixKind X.prog X.w) a vs := I.hok a _ e
    obtain ⟨o, es, ep, h1, h2, h3, _, e5, _⟩ := hD
    obtain ⟨hs1, hs2⟩ := PyData.showableKv_split ds (by simpa [PyData.showable] using hs)
    obtain ⟨⟨as1, b1, r1, hb1, k1⟩, as2, b2, r2, hb2, k2⟩ := DdKv.sh I ds kvs vs es.toList hall hk e5 hs1 hs2
      (fun t ht => let ⟨p, hp, hl⟩ := PyData.shownKv_key_le ds t ht; Nat.le_trans hl (Nat.le_trans (dictText_mem_le hp) hz')) (fun t ht => let ⟨p, hp, hl⟩ := PyData.shownKv_val_le ds t ht; Nat.le_trans hl (Nat.le_trans (dictText_mem_le hp) hz'))
    have rr : Reads s.heap (.ref a) (.dict ds) _ := .dict h1 h2.1 h3 r1 r2
    have hb : ReadAtMost s.heap (PyData.depthKv ds) (b1 ++ b2) := (hb1.mono (PyData.depthAll_keys_le ds)).append (hb2.mono (PyData.depthAll_vals_le ds))
    have hna : a ∉ b1 ++ b2 := not_mem_of_deeper rr (by simp only [PyData.depth]; omega) hb
    refine ⟨"dict", "dict.__repr__", F.slot_dict_repr, F.slot_dict_str, F.slot_dict_format, fun s' hk0 => ⟨o, hk0 _ _ h1, h2.1⟩, fun A E s' Q hg hu hk0 hQ => ?_⟩
    simp only [PyData.depth] at hu
    simp only [PyData.shown, PyData.shownKv_eq] at hQ
    exact call_dict_reprK h1 h2.1 h3 hsys hna (ReprEntriesK.of_two es.toList _ _
      (k1.more_le (fun b hb => List.mem_append_left _ hb) (PyData.depthAll_keys_le ds)) (k2.more_le (fun b hb => List.mem_append_right _ hb) (PyData.depthAll_vals_le ds))) hg (fun b _ => Clear.nil b) hu hk0 hQ (by rw [← PyData.shownKv_eq]; exact hz')
/-- repr of data, dicts in it -/
def rReprG (K : PySem.W.Frag) : List V → Hp → VK → Prop := fun xs H Q => ∃ v d, xs = [v] ∧ Dd K H v d ∧ d.showable = true ∧ d.depth ≤ 60 ∧ d.shown.length ≤ sizeLine ∧ Q (.str d.shown) H
theorem call_reprG (hg : X.A.guards = some []) (hu : X.A.units + 64 < cLine) : CallR X (.builtin "repr") (rReprG X.K) := by
  intro pins s σ H xs us Q I r h
  obtain ⟨v, d, rfl, hd, hs, hdep, hz, q⟩ := h
  obtain ⟨u, rfl, rv⟩ := vals1 r
  cases v with
  | ref a =>
    cases rv
    obtain ⟨T, idr, S⟩ := hd.shows I hs hz
    refine call_repr_slot (by omega) (S.typeIs s fun _ _ e => e) S.slotRepr (S.call X.A.in1 X.xe s _ hg (by show X.A.units + 1 + d.depth < cLine; omega) (fun _ _ e => e) fun h' u tk hk => ⟨_, _, rfl, ?_⟩)
    exact ⟨.str d.shown, H, I.kept hk, ⟨_, rfl⟩, q⟩
  | non =>
    cases hd
    cases rv
    exact PySem.P.repr_of_none ⟨.str _, H, I.tok _, ⟨_, rfl⟩, q⟩
  | bl b =>
    cases hd
    cases rv
    refine PySem.P.repr_of_bool ⟨.str (PyData.shown (.bool b)), H, I.tok _, ⟨s.toks, ?_⟩, q⟩
    cases b <;> rfl
  | int i =>
    cases hd
    obtain ⟨t, rfl⟩ := rv
    exact PySem.P.repr_of_int (by simpa [PyData.showable] using hs) ⟨.str _, H, I.tok _, ⟨_, rfl⟩, q⟩
  | str x =>
    cases hd
    obtain ⟨t, rfl⟩ := rv
    exact PySem.P.repr_of_str ⟨.str _, H, I.tok _, ⟨_, rfl⟩, q⟩ hz
  | byt b => cases hd
  | flt b => cases hd
  | ty n => cases hd
end
/-! data stays -/
mutual
theorem Dd.same {K : PySem.W.Frag} {H H' : Hp} (s : Ext H H') : ∀ {d : PyData} {v : V}, Dd K H v d → Dd K H' v d
  | _, _, .non => .non
  | _, _, .bl b => .bl b
  | _, _, .int i => .int i
  | _, _, .str x => .str x
  | _, _, .lst e h => .lst (SqL.ext e s) (DdAll.same s h)
  | _, _, .tup e h => .tup (SqT.ext e s) (DdAll.same s h)
  | _, _, .dct e h => .dct (s _ _ e) (DdKv.same s h)
theorem DdAll.same {K : PySem.W.Frag} {H H' : Hp} (s : Ext H H') : ∀ {ds : List PyData} {vs : List V}, DdAll K H vs ds → DdAll K H' vs ds
  | _, _, .nil => .nil
  | _, _, .cons h t => .cons (Dd.same s h) (DdAll.same s t)
theorem DdKv.same {K : PySem.W.Frag} {H H' : Hp} (s : Ext H H') : ∀ {ds : List (PyData × PyData)} {vs : List (Key × V)}, DdKv K H vs ds → DdKv K H' vs ds
  | _, _, .nil => .nil
  | _, _, .cons h t => .cons (Dd.same s h) (DdKv.same s t)
end
end So

/-! a value as data over a part of memory that stays; text * int -/
namespace So
open PySem PySem.Spec PyProof.Rows L2
section
variable {X : Cx}
theorem op_mul_str : OpR X (binaryOp .Mult) (fun x y H Q => ∃ z n, x = .str z ∧ y = .int n ∧ MulOk z n ∧ Q (.str (Txt.mul z n)) H) := by
  intro pins s σ H x y v u Q I rx ry h
  obtain ⟨z, n, rfl, rfl, ok, q⟩ := h
  obtain ⟨t, rfl⟩ := rx
  obtain ⟨t', rfl⟩ := ry
  exact SB.mul ok fun t' k => ⟨.str (Txt.mul z n), H, I.tok _, ⟨_, rfl⟩, q⟩
end
/-- memory without p -/
def hole (p : Addr) (H : Hp) : Hp := fun b => if b = p then none else H b
theorem hole_ne {p b : Addr} {H : Hp} (h : b ≠ p) : hole p H b = H b := if_neg h
theorem hole_at {p : Addr} {H : Hp} : hole p H p = none := if_pos rfl
theorem hole_same {p : Addr} {H : Hp} : Same (hole p H) H := fun b o e => by
  by_cases z : b = p
  · subst z
    rw [hole_at] at e
    cases e
  · rwa [hole_ne z] at e
/-- v is the data d, by a part of memory that has no p -/
def Kp (K : PySem.W.Frag) (p : Addr) (H : Hp) (v : V) (d : PyData) : Prop := ∃ F, F p = none ∧ Same F H ∧ Dd K F v d
section
variable {K : PySem.W.Frag} {p : Addr} {H H' : Hp} {v : V} {d : PyData}
theorem Kp.same (h : Kp K p H v d) (s : Same H H') : Kp K p H' v d := h.elim fun F e => ⟨F, e.1, e.2.1.trans s, e.2.2⟩
theorem Kp.off (h : Kp K p H v d) (s : ∀ b o, b ≠ p → H b = some o → H' b = some o) : Kp K p H' v d := h.elim fun F e => ⟨F, e.1, fun b o z => s b o (fun y => by
  subst y
  rw [e.1] at z
  cases z) (e.2.1 b o z), e.2.2⟩
theorem Kp.dd (h : Kp K p H v d) : Dd K H v d := h.elim fun F e => Dd.same (fun b o z => e.2.1 b o z) e.2.2
theorem Kp.hole (h : Dd K (So.hole p H) v d) : Kp K p H v d := ⟨So.hole p H, hole_at, hole_same, h⟩
theorem Kp.at (h : Dd K H v d) (e : H p = none) (s : Same H H') : Kp K p H' v d := ⟨H, e, s, h⟩
theorem Kp.non : Kp K p H .non .none := .hole .non
theorem Kp.bl (b : Bool) : Kp K p H (.bl b) (.bool b) := .hole (.bl b)
theorem Kp.int (i : Int) : Kp K p H (.int i) (.int i) := .hole (.int i)
theorem Kp.str (z : Str) : Kp K p H (.str z) (.str z) := .hole (.str z)
end
end So

/-! how long what repr tells of data is, how deep it goes -/
namespace So
open PySem PySem.Spec PyProof.Rows L2
theorem shownAll_map' : ∀ ds : List PyData, PyData.shownAll ds = ds.map PyData.shown
  | [] => rfl
  | d :: r => by
    unfold PyData.shownAll
    rw [shownAll_map' r]
    rfl
theorem sum_le' {k : Nat} : ∀ ds : List PyData, (∀ d ∈ ds, d.shown.length ≤ k) → (((PyData.shownAll ds).map (·.length)).sum) ≤ k * ds.length
  | [], _ => by simp [PyData.shownAll]
  | d :: r, h => by
    have ih := sum_le' r fun x hx => h x (List.mem_cons_of_mem _ hx)
    have h1 := h d List.mem_cons_self
    unfold PyData.shownAll
    rw [List.map_cons, List.sum_cons, List.length_cons, Nat.mul_succ]
    omega
theorem len_all' (ds : List PyData) : (PyData.shownAll ds).length = ds.length := by rw [shownAll_map', List.length_map]
/-- data that shows in n letters, m deep -/
structure OkD (n m : Nat) (d : PyData) : Prop where
  show' : d.showable = true
  deep : d.depth ≤ m
  len : d.shown.length ≤ n
theorem OkD.mono {n m n' m' : Nat} {d : PyData} (h : OkD n m d) (h1 : n ≤ n') (h2 : m ≤ m') : OkD n' m' d := ⟨h.show', Nat.le_trans h.deep h2, Nat.le_trans h.len h1⟩
theorem okAll {n m : Nat} : ∀ {ds : List PyData}, (∀ d ∈ ds, OkD n m d) → PyData.showableAll ds = true ∧ PyData.depthAll ds ≤ m + 1
  | [], _ => ⟨rfl, by simp [PyData.depthAll]⟩
  | d :: r, h => by
    have ih := okAll (ds := r) fun x hx => h x (List.mem_cons_of_mem _ hx)
    have h1 := h d List.mem_cons_self
    refine ⟨?_, ?_⟩
    · simp only [PyData.showableAll, h1.show', ih.1, Bool.and_self]
    · simp only [PyData.depthAll]
      have := h1.deep
      have := ih.2
      omega
theorem OkD.list {n m : Nat} {ds : List PyData} (h : ∀ d ∈ ds, OkD n m d) : OkD (n * ds.length + 2 * ds.length + 3) (m + 2) (.list ds) := by
  have a := okAll h
  refine ⟨by simp only [PyData.showable]; exact a.1, by simp only [PyData.depth]; omega, ?_⟩
  have h1 := listText_len_le (PyData.shownAll ds)
  have h2 := sum_le' (k := n) ds fun d hd => (h d hd).len
  rw [len_all'] at h1
  show (listText (PyData.shownAll ds)).length ≤ _
  omega
theorem OkD.tuple {n m : Nat} {ds : List PyData} (h : ∀ d ∈ ds, OkD n m d) : OkD (n * ds.length + 2 * ds.length + 3) (m + 2) (.tuple ds) := by
  have a := okAll h
  refine ⟨by simp only [PyData.showable]; exact a.1, by simp only [PyData.depth]; omega, ?_⟩
  have h1 := tupleText_len_le (PyData.shownAll ds)
  have h2 := sum_le' (k := n) ds fun d hd => (h d hd).len
  rw [len_all'] at h1
  show (tupleText (PyData.shownAll ds)).length ≤ _
  omega
theorem OkD.int {i : Int} (h : i.natAbs < 2 ^ 250) : OkD 2000 0 (.int i) := by
  have hl : i.natAbs.log2 < 1920 := Nat.lt_of_lt_of_le (PySem.Flt.log2_lt_of (by decide) h) (by decide)
  refine ⟨by simp [PyData.showable, hl], Nat.zero_le _, ?_⟩
  show (Str.ofString (toString i)).length ≤ 2000
  rw [PyProof.Rows.ofString_length]
  exact Nat.le_trans (int_text_length_le (k := 1920) (by decide) hl) (by decide)
theorem OkD.bool (b : Bool) : OkD 2000 0 (.bool b) := ⟨rfl, Nat.zero_le _, by cases b <;> decide⟩
theorem OkD.none : OkD 2000 0 .none := ⟨rfl, Nat.zero_le _, by decide⟩
theorem OkD.str {z : Str} (h : ∀ c ∈ z.cps.toList, c < 128) (hl : z.length ≤ 100) : OkD 2000 0 (.str z) := by
  refine ⟨rfl, Nat.zero_le _, ?_⟩
  have h1 := PySem.StrLaws.reprText_len z (fun c hc => Nat.lt_trans (h c hc) (by decide))
  show (reprText z).length ≤ 2000
  omega
/-- the same texts of the same data -/
theorem OkD.repr {n m : Nat} {d : PyData} (h : OkD n m d) (h1 : m ≤ 60) (h2 : n ≤ 16777216) : d.showable = true ∧ d.depth ≤ 60 ∧ d.shown.length ≤ sizeLine := ⟨h.show', Nat.le_trans h.deep h1, by rw [sizeLine_eq]; exact Nat.le_trans h.len h2⟩
end So

/-! memory without the tables of code objects -/
namespace So
open PySem PySem.Spec PyProof.Rows L2 LamX
def unt (H : Hp) : Hp := fun b => match H b with
  | some (.tbl _) => none
  | o => o
theorem unt_get {H : Hp} {b : Addr} {o : HO} (h : H b = some o) (n : ∀ ps, o ≠ .tbl ps) : unt H b = some o := by
  unfold unt
  rw [h]
  cases o with
  | tbl ps => exact absurd rfl (n ps)
  | _ => rfl
theorem unt_of {H : Hp} {b : Addr} {o : HO} (h : unt H b = some o) : H b = some o ∧ ∀ ps, o ≠ .tbl ps := by
  unfold unt at h
  cases e : H b with
  | none => rw [e] at h; cases h
  | some u =>
    rw [e] at h
    cases u with
    | tbl ps => cases h
    | _ => cases h; exact ⟨rfl, fun ps z => nomatch z⟩
theorem unt_none {H : Hp} {b : Addr} (h : H b = none) : unt H b = none := by
  unfold unt
  rw [h]
theorem unt_same (H : Hp) : Same (unt H) H := fun b o e => (unt_of e).1
theorem unt_ext {H H' : Hp} (e : ExtN H H') : Same (unt H) H' := fun b o h => e b o (unt_of h).1 (unt_of h).2
theorem unt_mono {F H : Hp} (s : Same F H) : Same (unt F) (unt H) := fun b o h => unt_get (s _ _ (unt_of h).1) (unt_of h).2
theorem rd_unt {H : Hp} {a : Addr} {u : HO} (h : Rd H a u) (n : ∀ ps, u ≠ .tbl ps) : Rd (unt H) a u := by
  rcases h with h | ⟨o, h⟩
  · exact .inl (unt_get h n)
  · exact .inr ⟨o, unt_get h fun ps z => nomatch z⟩
theorem sql_unt {K : PySem.W.Frag} {H : Hp} {a : Addr} {xs : List V} (h : SqL K H a xs) : SqL K (unt H) a xs := by
  rcases h with h | h
  · exact .inl (rd_unt h fun ps z => nomatch z)
  · exact .inr h
theorem sqt_unt {K : PySem.W.Frag} {H : Hp} {a : Addr} {xs : List V} (h : SqT K H a xs) : SqT K (unt H) a xs := by
  rcases h with h | h
  · exact .inl (rd_unt h fun ps z => nomatch z)
  · exact .inr h
mutual
theorem dd_unt {K : PySem.W.Frag} {H : Hp} : ∀ {d : PyData} {v : V}, Dd K H v d → Dd K (unt H) v d
  | _, _, .non => .non
  | _, _, .bl b => .bl b
  | _, _, .int i => .int i
  | _, _, .str x => .str x
  | _, _, .lst e h => .lst (sql_unt e) (ddAll_unt h)
  | _, _, .tup e h => .tup (sqt_unt e) (ddAll_unt h)
  | _, _, .dct e h => .dct (unt_get e fun ps z => nomatch z) (ddKv_unt h)
theorem ddAll_unt {K : PySem.W.Frag} {H : Hp} : ∀ {ds : List PyData} {vs : List V}, DdAll K H vs ds → DdAll K (unt H) vs ds
  | _, _, .nil => .nil
  | _, _, .cons h t => .cons (dd_unt h) (ddAll_unt t)
theorem ddKv_unt {K : PySem.W.Frag} {H : Hp} : ∀ {ds : List (PyData × PyData)} {vs : List (Key × V)}, DdKv K H vs ds → DdKv K (unt H) vs ds
  | _, _, .nil => .nil
  | _, _, .cons h t => .cons (dd_unt h) (ddKv_unt t)
end
theorem Kp.extN {K : PySem.W.Frag} {p : Addr} {H H' : Hp} {v : V} {d : PyData} (h : Kp K p H v d) (e : ExtN H H') : Kp K p H' v d := by
  obtain ⟨F, h1, h2, h3⟩ := h
  exact ⟨unt F, unt_none h1, (unt_mono h2).trans (unt_ext e), dd_unt h3⟩
end So

/-! texts of signs that are code points: how long what repr tells of them is -/
namespace So
open PySem PySem.Spec PyProof.Rows L2
def Wd (z : Str) : Prop := ∀ c ∈ z.cps.toList, c < 0x110000
theorem wd_of (s : String) : Wd (Str.ofString s) := by
  intro c hc
  rw [Str.ofString_eq_toList] at hc
  obtain ⟨x, _, rfl⟩ := List.mem_map.mp (show c ∈ s.toList.map Char.toNat by simpa using hc)
  have h : x.toNat < 1114112 := by
    have := x.valid
    unfold UInt32.isValidChar Nat.isValidChar at this
    show x.val.toNat < _
    omega
  exact h
theorem wd_app {a b : Str} (ha : Wd a) (hb : Wd b) : Wd (a ++ b) := by
  intro c hc
  have e : (a ++ b).cps.toList = a.cps.toList ++ b.cps.toList := by
    show (a.cps ++ b.cps).toList = _
    simp
  rw [e] at hc
  exact (List.mem_append.mp hc).elim (ha c) (hb c)
theorem wd_strOk {z : Str} (h : Wd z) : PyData.strOk z = true := by
  unfold PyData.strOk
  rw [Array.all_eq_true']
  intro c hc
  exact decide_eq_true (h c (by simpa using hc))
theorem wd_empty : Wd Str.empty := fun c hc => by cases hc
theorem wd_sjoin {a : Str} (ha : Wd a) : ∀ {ys : List Str}, (∀ y ∈ ys, Wd y) → Wd (Str.join a ys)
  | [], _ => wd_empty
  | [x], h => h x List.mem_cons_self
  | x :: y :: r, h => wd_app (wd_app (h x List.mem_cons_self) ha) (wd_sjoin ha fun z hz => h z (List.mem_cons_of_mem _ hz))
theorem wd_join {a : Str} (ha : Wd a) {ys : List Str} (h : ∀ y ∈ ys, Wd y) : Wd (Txt.join a ys) := by
  rw [TL.join_eq]
  exact wd_sjoin ha h
theorem sjoin_len (a : Str) : ∀ ys : List Str, (Str.join a ys).length ≤ (ys.map (·.length)).sum + ys.length * a.length
  | [] => Nat.zero_le _
  | [x] => by simp [Str.join]
  | x :: y :: r => by
    have ih := sjoin_len a (y :: r)
    have e1 : (Str.join a (x :: y :: r)).length = x.length + a.length + (Str.join a (y :: r)).length := by
      show (x ++ a ++ Str.join a (y :: r)).length = _
      rw [PyProof.Rows.len_cat, PyProof.Rows.len_cat]
    rw [e1, List.map_cons, List.sum_cons, List.length_cons, Nat.succ_mul]
    omega
theorem join_len (a : Str) (ys : List Str) : (Txt.join a ys).length ≤ (ys.map (·.length)).sum + ys.length * a.length := by
  rw [TL.join_eq]
  exact sjoin_len a ys
theorem OkD.strW {z : Str} {n : Nat} (h : Wd z) (hl : z.length ≤ n) : OkD (10 * n + 2) 0 (.str z) := by
  refine ⟨rfl, Nat.zero_le _, ?_⟩
  have h1 := PySem.StrLaws.reprText_len z fun c hc => Nat.lt_trans (h c hc) (by decide)
  show (reprText z).length ≤ _
  omega
end So

namespace K13
open PySem PySem.Spec PyProof.Rows L2 So LamX
abbrev sTick : Stmt := topS 55
abbrev sKinds : Stmt := topS 57
abbrev sDrawn : Stmt := topS 58
abbrev drawnN : List Str := ["_law_pen_here", "_law_crew_here", "_law_kinds_here", "_law_kind", "_law_left", "_law_right", "_law_tick_here", "_law_far"]
theorem scTick : FnScope ["_law_pen_here", "_law_some"] ["_law_pen_here"] (defScope sTick) := ⟨rfl, rfl, rfl, by decide +kernel, rfl, by decide +kernel, by decide +kernel⟩
theorem scKinds : FnScope ["_law_some"] [] (defScope sKinds) := ⟨rfl, rfl, rfl, by decide +kernel, rfl, by decide +kernel, by decide +kernel⟩
theorem scDrawn : FnScope drawnN ["_law_pen_here", "_law_crew_here", "_law_kinds_here"] (defScope sDrawn) := ⟨rfl, rfl, rfl, by decide +kernel, rfl, by decide +kernel, by decide +kernel⟩
theorem Pen.same {H H' : Hp} {p l : Addr} {ns : List Int} {n : Nat} {g : Int} (h : Pen H p l ns n g) (s : Same H H') : Pen H' p l ns n g := ⟨s _ _ h.pen, s _ _ h.cells, h.left⟩
theorem Pen.ne {H : Hp} {p l q : Addr} {ns : List Int} {n : Nat} {g : Int} (h : Pen H p l ns n g) (hq : H q = none) : q ≠ p := (ne_of_none h.pen hq).symm
theorem offS {p : Addr} {H H' : Hp} (s : Same H H') : Off p H H' := fun b o _ e => s b o e
/-! ### a drawn row -/
/-- a value that lies in no memory: a name, a moment, a truth -/
inductive Flat1 : V → Prop where
  | nam {z : Str} (h : isName z = true) : Flat1 (.str z)
  | mom {i : Int} (h : 0 ≤ i ∧ i ≤ 1000000000000000000000000000000) : Flat1 (.int i)
  | tru (b : Bool) : Flat1 (.bl b)
def FlatRow (kind : Str) (xs : List V) : Prop := xs.length = (formsOf kind).length ∧ ∀ q ∈ xs.zip (formsOf kind), okF q.2 q.1 = true ∧ Flat1 q.1
section
variable {P : Program} {w : World} {K : PySem.W.Frag} {mg : Str → Option Value} {base : Heap}
def spTick : Sp := fun vs H Q _ => ∃ (p l : Addr) (ns : List Int) (n : Nat) (g : Int), vs = [.ref p] ∧ Pen H p l ns n g ∧ n < 999000 ∧
  ∀ (i : Int) (n' : Nat) (g' : Int) (H' : Hp), 0 ≤ i → i ≤ 1000000000000000000000000000000 → n' ≤ n + 3 → Off p H H' → Pen H' p l ns n' g' → Q (.int i) H'
theorem ok_tick {f fP fD : Addr} {fd fdP fdD : FuncData} (F : Fun K "_law_tick" "_law_tick" sTick f fd) (FP : Fun K "_law_pick" "_law_pick" sPick fP fdP) (bP : Binds K fdP ["_law_pen_here", "_law_some"] []) (gP : mg "_law_pick" = some (.ref fP)) (GP : FnOk P w K mg base CX0 2 fP fdP ["_law_pen_here", "_law_some"] (spPick K))
    (FD : Fun K "_law_draw" "_law_draw" sDraw fD fdD) (bD : Binds K fdD ["_law_pen_here", "_law_many"] []) (gD : mg "_law_draw" = some (.ref fD)) (GD : FnOk P w K mg base CX0 1 fD fdD ["_law_pen_here", "_law_many"] spDraw) : FnOk P w K mg base CX0 3 f fd ["_law_pen_here"] spTick := by
  refine F.ok scTick (fun vs H Q E h => ?_) (fun cdv A outer s H vs Q E hr h => ?_)
  · obtain ⟨p, l, ns, n, g, rfl, _⟩ := h
    rfl
  · obtain ⟨p, l, ns, n, g, rfl, hp, hn, k⟩ := h
    have hr1 : Room 1 _ := hr.mono (by decide)
    refine ⟨_, pss_cons (ps_set (i := 1) scTick.nd rfl (.inl rfl) (pe_lst (pa_cons pe_int (pa_cons pe_int (pa_cons pe_int (pa_cons pe_int (pa_cons pe_int (pa_cons pe_int (pa_cons pe_int (pa_cons pe_int (pa_cons (pe_op op_pow pe_int pe_int) (pa_cons (pe_op op_sub (pe_op op_pow pe_int pe_int) pe_int) pa_nil))))))))))))
      (pss_one (ps_ret (pe_call GP hr (by rfl) gP FP.kp bP .nil pass0 (pa_cons (pv 0) (pa_cons (pe_op op_cat (pv 1) (pe_lst (pa_cons (pe_call GD hr1 (by rfl) gD FD.kp bD .nil pass0 (pa_cons (pv 0) (pa_cons pe_int pa_nil))) (pa_cons (pe_call GD hr1 (by rfl) gD FD.kp bD .nil pass0 (pa_cons (pv 0) (pa_cons (pe_op op_pow pe_int pe_int) pa_nil))) pa_nil)))) pa_nil))))), ?_⟩
    refine ⟨_, _, rfl, rfl, ⟨by decide, by decide, by decide⟩, _, _, rfl, rfl, ⟨by decide, by decide, by decide⟩, _, _, rfl, rfl, by show 10 ≤ sizeLine; decide, fun s1 h1 => ?_⟩
    have hp1 := hp.new (o := .lst [V.int 0, .int 1, .int 2, .int 3, .int 4, .int 5, .int 6, .int 8, .int ((10 : Int) ^ Int.toNat 30), .int ((10 : Int) ^ Int.toNat 30 - 1)]) h1
    have nsp := hp.ne h1
    refine ⟨_, rfl, _, rfl, _, rfl, p, l, ns, n, g, _, rfl, hp1, by omega, by decide, by decide, fun d1 n2 g2 H2 d10 d11 hn2 off2 pen2 => ?_⟩
    refine ⟨_, rfl, _, _, rfl, rfl, ⟨by decide, by decide, by decide⟩, p, l, ns, n2, g2, _, rfl, pen2, by omega, by decide +kernel, by decide +kernel, fun d2 n3 g3 H3 d20 d21 hn3 off3 pen3 => ?_⟩
    replace d21 : d2 < 1000000000000000000000000000000 := d21
    have hS3 := off3 _ _ nsp (off2 _ _ nsp (show (upd H s1 (.lst [V.int 0, .int 1, .int 2, .int 3, .int 4, .int 5, .int 6, .int 8, .int ((10 : Int) ^ Int.toNat 30), .int ((10 : Int) ^ Int.toNat 30 - 1)])) s1 = _ from upd_same))
    refine ⟨by show 2 ≤ sizeLine; decide, fun s2 h2 => ⟨s1, s2, _, _, rfl, rfl, same_upd0 h2 _ _ hS3, upd_same, by show 12 ≤ sizeLine; decide, fun s3 h3 => ?_⟩⟩
    have s23 := (same_upd0 (o := .lst [.int d1, .int d2]) h2).trans (same_upd0 (o := .lst ([V.int 0, .int 1, .int 2, .int 3, .int 4, .int 5, .int 6, .int 8, .int ((10 : Int) ^ Int.toNat 30), .int ((10 : Int) ^ Int.toNat 30 - 1)] ++ [.int d1, .int d2])) h3)
    have offA : Off p H H3 := (offS (same_upd0 h1)).trans (off2.trans off3)
    refine ⟨p, l, ns, n3, g3, _, rfl, pen3.same s23, by omega, .inl ⟨s3, _, rfl, (pen3.same (same_upd0 h2)).ne h3, upd_same, by show 0 < 12; decide, by show 12 ≤ 1000; decide, fun v n4 g4 H4 hv hn4 off4 pen4 => ?_⟩⟩
    have offB := (offA.trans (offS s23)).trans off4
    have hv' : v ∈ [V.int 0, .int 1, .int 2, .int 3, .int 4, .int 5, .int 6, .int 8, .int ((10 : Int) ^ Int.toNat 30), .int ((10 : Int) ^ Int.toNat 30 - 1), .int d1, .int d2] := hv
    simp only [List.mem_cons, List.not_mem_nil, or_false] at hv'
    rcases hv' with h | h | h | h | h | h | h | h | h | h | h | h <;> subst h
    · exact k _ n4 g4 H4 (by decide) (by decide) (by omega) offB pen4
    · exact k _ n4 g4 H4 (by decide) (by decide) (by omega) offB pen4
    · exact k _ n4 g4 H4 (by decide) (by decide) (by omega) offB pen4
    · exact k _ n4 g4 H4 (by decide) (by decide) (by omega) offB pen4
    · exact k _ n4 g4 H4 (by decide) (by decide) (by omega) offB pen4
    · exact k _ n4 g4 H4 (by decide) (by decide) (by omega) offB pen4
    · exact k _ n4 g4 H4 (by decide) (by decide) (by omega) offB pen4
    · exact k _ n4 g4 H4 (by decide) (by decide) (by omega) offB pen4
    · exact k _ n4 g4 H4 (by decide +kernel) (by decide +kernel) (by omega) offB pen4
    · exact k _ n4 g4 H4 (by decide +kernel) (by decide +kernel) (by omega) offB pen4
    · exact k _ n4 g4 H4 d10 (by omega) (by omega) offB pen4
    · exact k _ n4 g4 H4 d20 (by omega) (by omega) offB pen4
theorem okF_n (v : V) : okF "name" v = gNam v := by unfold okF; rw [if_pos rfl]
theorem okF_m (v : V) : okF "moment" v = gMom v := by unfold okF; rw [if_neg (by decide +kernel), if_pos rfl]
theorem okF_b (v : V) : okF "beginning" v = gBeg v := by unfold okF; rw [if_neg (by decide +kernel), if_neg (by decide +kernel), if_pos rfl]
theorem okF_t (v : V) : okF "truth" v = gTru v := by unfold okF; rw [if_neg (by decide +kernel), if_neg (by decide +kernel), if_neg (by decide +kernel)]
theorem row_of {kind : Str} {fo : List Str} {xs : List V} (e : formsOf kind = fo) (hl : xs.length = fo.length) (h : ∀ q ∈ xs.zip fo, okF q.2 q.1 = true ∧ Flat1 q.1) : FlatRow kind xs := by
  unfold FlatRow
  rw [e]
  exact ⟨hl, h⟩
theorem nam_ok {z : Str} (h : isName z = true) : okF "name" (.str z) = true ∧ Flat1 (.str z) := ⟨by rw [okF_n]; exact h, .nam h⟩
theorem mom_ok {i : Int} (h : 0 ≤ i ∧ i ≤ 1000000000000000000000000000000) : okF "moment" (.int i) = true ∧ Flat1 (.int i) := ⟨by rw [okF_m]; exact decide_eq_true h, .mom h⟩
theorem beg_ok {i : Int} (h : 1 ≤ i ∧ i ≤ 1000000000000000000000000000000) : okF "beginning" (.int i) = true ∧ Flat1 (.int i) := ⟨by rw [okF_b]; exact decide_eq_true h, .mom ⟨by omega, h.2⟩⟩
theorem tru_ok (b : Bool) : okF "truth" (.bl b) = true ∧ Flat1 (.bl b) := ⟨by rw [okF_t]; rfl, .tru b⟩
theorem kinds_last : ∀ kind ∈ kinds, ¬ kind = "begun" → ¬ kind = "trusted" → ¬ kind = "found" → (["setby", "passed", "failed"] : List Str).contains kind = false → formsOf kind = (["name", "moment", "name", "moment"] : List Str) := by decide +kernel
theorem kinds_three : ∀ kind ∈ kinds, (["setby", "passed", "failed"] : List Str).contains kind = true → (kind = "setby" ∧ formsOf kind = (["name", "beginning", "name"] : List Str)) ∨ formsOf kind = (["name", "moment", "name"] : List Str) := by decide +kernel
/-- a row walked by itself: what follows it is said once -/
theorem ps_cut {X : Cx} {st : Stmt} {t : TS} (h : PS X st t) : PS X st (fun D σ H => ∃ N : L2.St → Hp → Prop, t { D with nx := N } σ H ∧ ∀ σ' H', N σ' H' → D.nx σ' H') :=
  ⟨fun pins s σ H D I ⟨N, h1, h2⟩ => wpAny_mono (h.run pins s σ H { D with nx := N } I h1) (fun fl s' z => by
    cases fl with
    | next =>
      obtain ⟨σ', H', I', q⟩ := z
      exact ⟨σ', H', I', h2 _ _ q⟩
    | ret v => exact z
    | brk => exact z
    | cont => exact z) fun _ _ z => z⟩
/-- the kinds, in a new list -/
def spKinds : Sp := fun vs H Q _ => vs = [] ∧ ∀ (H' : Hp) (a : Addr), Same H H' → H a = none → H' a = some (.lst (kinds.map V.str)) → Q (.ref a) H'
theorem ok_kinds {f : Addr} {fd : FuncData} (F : Fun K "_law_kinds" "_law_kinds" sKinds f fd) : FnOk P w K mg base CX0 1 f fd [] spKinds := by
  refine F.ok scKinds (fun vs H Q E h => ?_) (fun cdv A outer s H vs Q E hr h => ?_)
  · obtain ⟨rfl, _⟩ := h
    rfl
  · obtain ⟨rfl, q⟩ := h
    refine ⟨_, pss_cons (ps_set (i := 0) scKinds.nd rfl (.inl rfl) (pe_lst (pa_cons pe_str (pa_cons pe_str (pa_cons pe_str (pa_cons pe_str (pa_cons pe_str (pa_cons pe_str pa_nil))))))))
      (pss_one (ps_ret (pe_op op_cat (pv 0) (pe_lst (pa_cons pe_str (pa_cons pe_str (pa_cons pe_str (pa_cons pe_str pa_nil)))))))), ?_⟩
    refine ⟨by show 6 ≤ sizeLine; decide, fun a ha => ?_⟩
    refine ⟨_, rfl, by show 4 ≤ sizeLine; decide, fun b hb => ?_⟩
    refine ⟨a, b, _, _, rfl, rfl, (upd_ne (ne_of_none upd_same hb)).trans upd_same, upd_same, by show 10 ≤ sizeLine; decide, fun c hc => ?_⟩
    exact q _ c (same3 ha hb hc).1 (same3 (o3 := .lst []) ha hb hc).2 upd_same
def spDrawn : Sp := fun vs H Q _ => ∃ (p l cr kk : Addr) (ns : List Int) (n : Nat) (g : Int) (kind : Str) (zs : List Str), vs = [.ref p, .ref cr, .ref kk] ∧ Pen H p l ns n g ∧ n < 900000 ∧ kind ∈ kinds ∧ H kk = some (.lst [.str kind]) ∧ kk ≠ p ∧ H cr = some (.lst (zs.map V.str)) ∧ cr ≠ p ∧ 0 < zs.length ∧ zs.length ≤ 1000 ∧ (∀ z ∈ zs, isName z = true) ∧
  ∀ (xs : List V) (tr : Addr) (n' : Nat) (g' : Int) (H' : Hp), FlatRow kind xs → (∀ y, V.str y ∈ xs → y ∈ zs) → n' ≤ n + 12 → Off p H H' → Pen H' p l ns n' g' → H' tr = some (.tup (.str kind :: xs)) → Q (.ref tr) H'
theorem ok_drawn {f fP fD fT : Addr} {fd fdP fdD fdT : FuncData} (F : Fun K "_law_drawn" "_law_drawn" sDrawn f fd) (mi : mg "int" = none) (FP : Fun K "_law_pick" "_law_pick" sPick fP fdP) (bP : Binds K fdP ["_law_pen_here", "_law_some"] []) (gP : mg "_law_pick" = some (.ref fP)) (GP : FnOk P w K mg base CX0 2 fP fdP ["_law_pen_here", "_law_some"] (spPick K))
    (FD : Fun K "_law_draw" "_law_draw" sDraw fD fdD) (bD : Binds K fdD ["_law_pen_here", "_law_many"] []) (gD : mg "_law_draw" = some (.ref fD)) (GD : FnOk P w K mg base CX0 1 fD fdD ["_law_pen_here", "_law_many"] spDraw)
    (FT : Fun K "_law_tick" "_law_tick" sTick fT fdT) (bT : Binds K fdT ["_law_pen_here"] []) (gT : mg "_law_tick" = some (.ref fT)) (GT : FnOk P w K mg base CX0 3 fT fdT ["_law_pen_here"] spTick) : FnOk P w K mg base CX0 4 f fd ["_law_pen_here", "_law_crew_here", "_law_kinds_here"] spDrawn := by
  refine F.ok scDrawn (fun vs H Q E h => ?_) (fun cdv A outer s H vs Q E hr h => ?_)
  · obtain ⟨_, _, _, _, _, _, _, _, _, rfl, _⟩ := h
    rfl
  · obtain ⟨p, l, cr, kk, ns, n, g, kind, zs, rfl, hp, hn, hk, hkk, nkp, hcr, ncp, i1, i2, i3, q⟩ := h
    have hr1 : Room 1 _ := hr.mono (by decide)
    have hr2 : Room 2 _ := hr.mono (by decide)
    refine ⟨_, pss_cons (ps_set (i := 3) scDrawn.nd rfl (.inl rfl) (pe_call GP hr2 (by rfl) gP FP.kp bP .nil pass0 (pa_cons (pv 0) (pa_cons (pv 2) pa_nil))))
      (pss_cons (ps_par (i := 4) (j := 5) (by rfl) scDrawn.nd rfl rfl (by decide) rfl rfl (pa_cons (pe_call GP hr2 (by rfl) gP FP.kp bP .nil pass0 (pa_cons (pv 0) (pa_cons (pv 1) pa_nil))) (pa_cons (pe_call GP hr2 (by rfl) gP FP.kp bP .nil pass0 (pa_cons (pv 0) (pa_cons (pv 1) pa_nil))) pa_nil)) (by rfl))
      (pss_cons (ps_par (i := 6) (j := 7) (by rfl) scDrawn.nd rfl rfl (by decide) rfl rfl (pa_cons (pe_call GT hr (by rfl) gT FT.kp bT .nil pass0 (pa_cons (pv 0) pa_nil)) (pa_cons (pe_call GT hr (by rfl) gT FT.kp bT .nil pass0 (pa_cons (pv 0) pa_nil)) pa_nil)) (by rfl))
      (pss_cons (ps_cut (ps_if (pt_cmpR op_in_seq (pv 3) (pe_tup (pa_cons pe_str (pa_cons pe_str pa_nil))) (by rfl)) (pss_one (ps_set (i := 6) scDrawn.nd rfl (.inl rfl) (pe_op op_add (pv 6) (pe_callTy call_int1 (by rfl) mi (by decide +kernel) (pa_cons (pe_cmpR op_eq (pv 6) pe_int (nomark _)) pa_nil))))) pss_nil))
      (pss_cons (ps_if (pt_cmpR op_eq (pv 3) pe_str (nomark _)) (pss_one (ps_ret (pe_tup (pa_cons (pv 3) (pa_cons (pv 4) (pa_cons (pv 6) pa_nil)))))) pss_nil)
      (pss_cons (ps_if (pt_cmpR op_eq (pv 3) pe_str (nomark _)) (pss_one (ps_ret (pe_tup (pa_cons (pv 3) (pa_cons (pv 4) pa_nil))))) pss_nil)
      (pss_cons (ps_if (pt_cmpR op_eq (pv 3) pe_str (nomark _)) (pss_one (ps_ret (pe_tup (pa_cons (pv 3) (pa_cons (pv 4) (pa_cons (pv 6) (pa_cons (pe_cmpR op_eq (pe_call GD hr1 (by rfl) gD FD.kp bD .nil pass0 (pa_cons (pv 0) (pa_cons pe_int pa_nil))) pe_int (nomark _)) pa_nil))))))) pss_nil)
      (pss_cons (ps_if (pt_cmpR op_in_seq (pv 3) (pe_tup (pa_cons pe_str (pa_cons pe_str (pa_cons pe_str pa_nil)))) (by rfl)) (pss_one (ps_ret (pe_tup (pa_cons (pv 3) (pa_cons (pv 4) (pa_cons (pv 6) (pa_cons (pv 5) pa_nil))))))) pss_nil)
      (pss_one (ps_ret (pe_tup (pa_cons (pv 3) (pa_cons (pv 4) (pa_cons (pv 6) (pa_cons (pv 5) (pa_cons (pv 7) pa_nil))))))))))))))), ?_⟩
    refine ⟨_, rfl, _, rfl, p, l, ns, n, g, _, rfl, hp, by omega, .inl ⟨kk, _, rfl, nkp, hkk, by show 0 < 1; decide, by show 1 ≤ 1000; decide, fun v n1 g1 H1 hv hn1 off1 pen1 => ?_⟩⟩
    obtain rfl : v = .str kind := by simpa using hv
    have hcr1 := off1 _ _ ncp hcr
    have nm : ∀ v ∈ zs.map V.str, ∃ z, v = .str z ∧ isName z = true ∧ z ∈ zs := fun v hv => by
      obtain ⟨z, hz, rfl⟩ := List.mem_map.mp hv
      exact ⟨z, rfl, i3 z hz, hz⟩
    have zl1 : 0 < (zs.map V.str).length := by rw [List.length_map]; exact i1
    have zl2 : (zs.map V.str).length ≤ 1000 := by rw [List.length_map]; exact i2
    refine ⟨_, rfl, _, rfl, p, l, ns, n1, g1, _, rfl, pen1, by omega, .inl ⟨cr, _, rfl, ncp, hcr1, zl1, zl2, fun v2 n2 g2 H2 hv2 hn2 off2 pen2 => ?_⟩⟩
    obtain ⟨zl, rfl, il, ml⟩ := nm v2 hv2
    refine ⟨_, rfl, _, rfl, p, l, ns, n2, g2, _, rfl, pen2, by omega, .inl ⟨cr, _, rfl, ncp, off2 _ _ ncp hcr1, zl1, zl2, fun v3 n3 g3 H3 hv3 hn3 off3 pen3 => ?_⟩⟩
    obtain ⟨zr, rfl, ir, mr⟩ := nm v3 hv3
    refine ⟨_, _, rfl, ?_⟩
    refine ⟨_, rfl, p, l, ns, n3, g3, rfl, pen3, by omega, fun t1 n4 g4 H4 t10 t11 hn4 off4 pen4 => ⟨_, rfl, p, l, ns, n4, g4, rfl, pen4, by omega, fun t2 n5 g5 H5 t20 t21 hn5 off5 pen5 => ⟨_, _, rfl, ?_⟩⟩⟩
    have offA := off1.trans (off2.trans (off3.trans (off4.trans off5)))
    refine ⟨fun σ G => ∃ t : Int, σ = [some (.ref p), some (.ref cr), some (.ref kk), some (.str kind), some (.str zl), some (.str zr), some (.int t), some (.int t2)] ∧ 0 ≤ t ∧ t ≤ 1000000000000000000000000000000 ∧ ((["begun", "setby"] : List Str).contains kind = true → 1 ≤ t) ∧ Same H5 G, ?_, ?_⟩
    · refine ⟨_, rfl, by show 2 ≤ sizeLine; decide, fun tp htp => ⟨tp, _, rfl, .inr (SqT.of upd_same), rfl, flat_strs ["begun", "setby"], ?_⟩⟩
      have s6 := same_upd0 (o := .tup [.str "begun", .str "setby"]) htp
      rw [show (if false = true then !inV (V.str kind) [V.str "begun", V.str "setby"] else inV (V.str kind) [V.str "begun", V.str "setby"]) = (["begun", "setby"] : List Str).contains kind from inV_strs kind ["begun", "setby"]]
      refine ⟨_, rfl, ite2 (fun c => ?_) (fun c => ?_)⟩
      · refine ⟨_, rfl, _, rfl, rfl, .inr ⟨_, rfl, ?_⟩⟩
        by_cases z : t1 = 0
        · subst z
          exact ⟨_, _, rfl, by rw [decide_eq_true rfl]; rfl, 0 + 1, rfl, by omega, by omega, fun _ => by omega, s6⟩
        · refine ⟨_, _, rfl, by rw [decide_eq_false (fun y => z (V.int.inj y))]; rfl, t1 + 0, rfl, by omega, by omega, fun _ => by omega, s6⟩
      · exact ⟨t1, rfl, t10, t11, fun y => absurd y c, s6⟩
    rintro σ H6 ⟨t, rfl, t0, t3, tb, s6⟩
    have offB := offA.trans (offS s6)
    have pen6 := pen5.same s6
    have sub : ∀ {xs : List V}, (∀ v ∈ xs, v = .str zl ∨ v = .str zr ∨ ∀ y, v ≠ .str y) → ∀ y, V.str y ∈ xs → y ∈ zs := fun h y hy => by
      rcases h _ hy with e | e | e
      · rw [V.str.inj e]; exact ml
      · rw [V.str.inj e]; exact mr
      · exact absurd rfl (e y)
    have fin : ∀ {xs : List V} {tr : Addr} {n7 : Nat} {g7 : Int} {G : Hp}, FlatRow kind xs → (∀ v ∈ xs, v = .str zl ∨ v = .str zr ∨ ∀ y, v ≠ .str y) → n7 ≤ n + 12 → Off p H6 G → Pen G p l ns n7 g7 → G tr = none → Q (.ref tr) (upd G tr (.tup (.str kind :: xs))) := fun hf hs h7 ho hp7 htr => q _ _ _ _ _ hf (sub hs) h7 (offB.trans (ho.trans (offS (same_upd0 htr)))) (hp7.same (same_upd0 htr)) upd_same
    refine ⟨_, rfl, rfl, _, rfl, ite2 (fun e => ?_) (fun e1 => ?_)⟩
    · obtain rfl : kind = "begun" := V.str.inj (of_decide_eq_true e)
      refine ⟨_, rfl, _, rfl, _, rfl, by show 3 ≤ sizeLine; decide, fun tr htr => fin (row_of (fo := ["name", "beginning"]) (by decide +kernel) rfl ?_) (by simp) (by omega) Off.refl pen6 htr⟩
      simp only [List.zip_cons_cons, List.zip_nil_right, List.forall_mem_cons]
      exact ⟨nam_ok il, beg_ok ⟨tb (by decide +kernel), t3⟩, fun _ h => nomatch h⟩
    have k1 : ¬ kind = "begun" := fun z => e1 (decide_eq_true (by rw [z]))
    refine ⟨_, rfl, rfl, _, rfl, ite2 (fun e => ?_) (fun e2 => ?_)⟩
    · obtain rfl : kind = "trusted" := V.str.inj (of_decide_eq_true e)
      refine ⟨_, rfl, _, rfl, by show 2 ≤ sizeLine; decide, fun tr htr => fin (row_of (fo := ["name"]) (by decide +kernel) rfl ?_) (by simp) (by omega) Off.refl pen6 htr⟩
      simp only [List.zip_cons_cons, List.zip_nil_right, List.forall_mem_cons]
      exact ⟨nam_ok il, fun _ h => nomatch h⟩
    have k2 : ¬ kind = "trusted" := fun z => e2 (decide_eq_true (by rw [z]))
    refine ⟨_, rfl, rfl, _, rfl, ite2 (fun e => ?_) (fun e3 => ?_)⟩
    · obtain rfl : kind = "found" := V.str.inj (of_decide_eq_true e)
      refine ⟨_, rfl, _, rfl, _, rfl, _, rfl, p, l, ns, n5, g5, _, rfl, pen6, by omega, by decide, by decide, fun d n7 g7 H7 _ _ hn7 off7 pen7 => ⟨rfl, by show 4 ≤ sizeLine; decide, fun tr htr => fin (row_of (fo := ["name", "moment", "truth"]) (by decide +kernel) rfl ?_) (by simp) (by omega) off7 pen7 htr⟩⟩
      simp only [List.zip_cons_cons, List.zip_nil_right, List.forall_mem_cons]
      exact ⟨nam_ok il, mom_ok ⟨t0, t3⟩, tru_ok _, fun _ h => nomatch h⟩
    have k3 : ¬ kind = "found" := fun z => e3 (decide_eq_true (by rw [z]))
    refine ⟨_, rfl, by show 3 ≤ sizeLine; decide, fun tp htp => ⟨tp, _, rfl, .inr (SqT.of upd_same), rfl, flat_strs ["setby", "passed", "failed"], ?_⟩⟩
    have s7 := same_upd0 (o := .tup [.str "setby", .str "passed", .str "failed"]) htp
    rw [show (if false = true then !inV (V.str kind) [V.str "setby", V.str "passed", V.str "failed"] else inV (V.str kind) [V.str "setby", V.str "passed", V.str "failed"]) = (["setby", "passed", "failed"] : List Str).contains kind from inV_strs kind ["setby", "passed", "failed"]]
    refine ⟨_, rfl, ite2 (fun c => ?_) (fun c => ?_)⟩
    · refine ⟨_, rfl, _, rfl, _, rfl, _, rfl, by show 4 ≤ sizeLine; decide, fun tr htr => fin ?_ (by simp) (by omega) (offS s7) (pen6.same s7) htr⟩
      rcases kinds_three kind hk c with ⟨e, h⟩ | h
      · refine row_of h rfl ?_
        simp only [List.zip_cons_cons, List.zip_nil_right, List.forall_mem_cons]
        exact ⟨nam_ok il, beg_ok ⟨tb (by rw [e]; decide +kernel), t3⟩, nam_ok ir, fun _ h => nomatch h⟩
      · refine row_of h rfl ?_
        simp only [List.zip_cons_cons, List.zip_nil_right, List.forall_mem_cons]
        exact ⟨nam_ok il, mom_ok ⟨t0, t3⟩, nam_ok ir, fun _ h => nomatch h⟩
    · refine ⟨_, rfl, _, rfl, _, rfl, _, rfl, _, rfl, by show 5 ≤ sizeLine; decide, fun tr htr => fin (row_of (kinds_last kind hk k1 k2 k3 (Bool.eq_false_iff.mpr c)) rfl ?_) (by simp) (by omega) (offS s7) (pen6.same s7) htr⟩
      simp only [List.zip_cons_cons, List.zip_nil_right, List.forall_mem_cons]
      exact ⟨nam_ok il, mom_ok ⟨t0, t3⟩, nam_ok ir, mom_ok ⟨t20, t21⟩, fun _ h => nomatch h⟩
end
end K13

namespace So
open PySem PySem.Spec PyProof.Rows L2
section
variable {X : Cx} {CX : CXT} {k : Nat} {C f : Addr} {fd : FuncData} {ps : List Str} {sp : Sp} {E : XK}
/-- o << n by an own __lshift__ -/
theorem op_lshOwn {fo ro : Option Value} (F : FnOk X.prog X.w X.K X.mg X.base CX k f fd ps sp) (hs : PySem.W.findIn X.K (.ref C) "__lshift__" = some (some (.ref f))) (hf : PySem.W.isFn X.K (.ref f) = true) (hb : Binds X.K fd ps []) (hx : Passes CX X E) (hr : Room k X.A)
    (hc : PySem.W.selfFirst X.K C = true) (hrl : PySem.W.findIn X.K (.ref C) "__rlshift__" = some none) (h1 : PySem.W.findIn X.K (.type "int") "__lshift__" = some fo) (h2 : PySem.W.findIn X.K (.type "int") "__rlshift__" = some ro) :
    OpR X (binaryOp .LShift) (fun x y H Q => ∃ (a dx : Addr) (fs : List (Str × V)) (n : Int), x = .ref a ∧ y = .int n ∧ H a = some (.ins C dx fs) ∧ sp [.ref a, .int n] H Q E) := by
  intro pins s σ H x y v u Q I rx ry h
  obtain ⟨a, dx, fs, n, rfl, rfl, ha, q⟩ := h
  cases rx
  obtain ⟨t, rfl⟩ := ry
  obtain ⟨mA, J, _⟩ := ins_get I.hok ha
  obtain ⟨od, J, _⟩ := J.look
  obtain ⟨m, hF⟩ := I.fr
  refine PySem.W.ksp_binT (op := .LShift) hF I.ok.mod.kin J (T := "int") rfl hc hs hf hrl (Or.inl rfl) h1 h2 (sub_ty (by decide +kernel)) ?_
  refine wpAny_mono (run_fn (us := [.ref a, .int n t]) (vs := [.ref a, .int n]) F hr hb .nil hx I (.cons rfl (.cons ⟨t, rfl⟩ .nil)) q) (fun w s' z => ?_) fun _ _ z => z
  obtain ⟨v, H', I', r, q'⟩ := z
  cases w <;> first | exact ⟨v, H', I', r, q'⟩ | (cases v <;> simp [L2.RelV] at r)
/-- isinstance(e, (c, ..)), e a kept exception -/
theorem call_isXoT : CallR X (.builtin "isinstance") (fun xs H Q => ∃ (a D dd tp : Addr) (fs : List (Str × V)) (cs : List V) (us : List Value) (b : Bool), xs = [.ref a, .ref tp] ∧ H a = some (Xo (.ref D) (some dd) a) ∧ H dd = some (.xd fs) ∧ Err X.K D ∧ H tp = some (.tup cs) ∧ Paired ClsV cs us ∧ PySem.W.kitAny X.K (.ref D) us = some b ∧ Q (.bl b) H) := by
  intro pins s σ H xs us Q I r h
  obtain ⟨a, D, dd, tp, fs, cs, ws, b, rfl, ha, hd, T, hT, cv, e, q⟩ := h
  obtain ⟨u1, u2, rfl, r1, r2⟩ := vals2 r
  cases r1
  cases r2
  obtain ⟨oe, vs, hg, hz, hdat⟩ := xo_at I.hok ha
  obtain ⟨mA, hns, _⟩ := (show ObjOk X.prog X.w H s.heap dd (.xd fs) from I.hok dd _ hd)
  obtain ⟨od, ho, _⟩ := lookIn_ns hns
  have nc : PySem.W.notCls oe = true := by
    unfold PySem.W.notCls
    rw [hdat]
  have J : PySem.W.InstAt s.heap a oe D (some od) := by
    refine ⟨hg, hz.1, nc, ?_⟩
    rw [hz.2]
    exact ho
  obtain ⟨_, its, rv, o, g1, g2, n, g3⟩ := (show ObjOk X.prog X.w H s.heap tp (.tup cs) from I.hok tp _ hT)
  have e3 := ClsV.all cv rv
  subst e3
  obtain ⟨oc, od', dt, sl⟩ := o
  simp only at g2 g3
  subst g2 g3
  exact PySem.W.kia_tup (kitx_err T) I.kIn ⟨oe, some od, J⟩ g1 e (fun z => nomatch z) fun tk => ⟨.bl b, H, I.tok tk, rfl, q⟩
end
/-! ### sorted, of pairs of texts -/
def encSS (p : Str × Str) : PyData := .tuple [.str p.1, .str p.2]
section
variable {X : Cx}
theorem cr_sortedSS (hu : X.A.units + 64 < cLine) : CallR X (.builtin "sorted") (fun xs H Q => ∃ (a : Addr) (ts : List (Addr × Str × Str)), xs = [.ref a] ∧ SqL X.K H a (ts.map fun t => V.ref t.1) ∧ (∀ t ∈ ts, H t.1 = some (.tup [.str t.2.1, .str t.2.2])) ∧
    ∀ (p : Addr) (ys : List (Addr × Str × Str)), H p = none → (∀ t ∈ ys, H t.1 = some (.tup [.str t.2.1, .str t.2.2])) → (ys.map fun t => t.2) = (ts.map fun t => t.2).mergeSort (PySem.W.dataLe false encSS) → Q (.ref p) (upd H p (.lst (ys.map fun t => V.ref t.1)))) := by
  intro pins s σ H xs us Q I r h
  obtain ⟨a, ts, rfl, hs, ht, q⟩ := h
  obtain ⟨its, rv, hl, hz⟩ := I.list hs
  rw [Vals.ref1 r]
  have each : ∀ (ts : List (Addr × Str × Str)) (its : List Value), Vals (ts.map fun t => V.ref t.1) its → (∀ t ∈ ts, H t.1 = some (.tup [.str t.2.1, .str t.2.2])) →
      PySem.W.EachIs (fun v (b : Str × Str) => ∃ a : Addr, v = .ref a ∧ H a = some (.tup [.str b.1, .str b.2])) its (ts.map fun t => t.2) := by
    intro ts
    induction ts with
    | nil =>
      intro its rv _
      cases rv
      exact .nil
    | cons t r ih =>
      intro its rv h
      cases rv with
      | cons r1 r2 =>
        refine .cons ⟨t.1, r1, h t List.mem_cons_self⟩ (ih _ r2 fun x hx => h x (List.mem_cons_of_mem _ hx))
  have e1 := each ts its rv ht
  have er : PySem.W.EachIs (fun v (b : Str × Str) => ∃ as, Reads s.heap v (encSS b) as) its (ts.map fun t => t.2) := by
    refine e1.mono fun v b z => ?_
    obtain ⟨a', rfl, hA⟩ := z
    exact Dp.reads I (encSS b) (.ref a') (.ref a') (.tup (SqT.of hA) (.cons (.str _) (.cons (.str _) .nil))) rfl
  have hlen : (ts.map fun t => t.2).length ≤ sizeLine := by
    rw [List.length_map]
    rw [List.length_map] at hz
    exact hz
  refine PySem.W.sorted_data (enc := encSS) hl.isList e1 er (PySem.W.AllAlike.of fun b b' => by simp [encSS, PySem.W.alike, PySem.W.alikeAll]) (PySem.W.Sortable.tuples fun b => ⟨_, _, rfl⟩) hlen (fun b _ => ?_) fun out ho h2 => ?_
  · show X.A.units + 2 + (encSS b).depth < cLine
    have : (encSS b).depth = 1 := by simp [encSS, PyData.depth, PyData.depthAll]
    omega
  · -- the items of the new list
    have back : ∀ (out : List Value) (bs : List (Str × Str)), PySem.W.EachIs (fun v (b : Str × Str) => ∃ a : Addr, v = .ref a ∧ H a = some (.tup [.str b.1, .str b.2])) out bs →
        ∃ ys : List (Addr × Str × Str), Vals (ys.map fun t => V.ref t.1) out ∧ (∀ t ∈ ys, H t.1 = some (.tup [.str t.2.1, .str t.2.2])) ∧ (ys.map fun t => t.2) = bs := by
      intro out bs e
      induction e with
      | nil => exact ⟨[], .nil, (fun _ h => nomatch h), rfl⟩
      | cons h _ ih =>
        obtain ⟨a', rfl, hA⟩ := h
        obtain ⟨ys, r1, r2, r3⟩ := ih
        refine ⟨(a', _) :: ys, .cons rfl r1, fun t h => ?_, by rw [List.map_cons, r3]⟩
        rcases List.mem_cons.mp h with rfl | h
        · exact hA
        · exact r2 t h
    obtain ⟨ys, r1, r2, r3⟩ := back _ _ h2
    obtain ⟨ep, he⟩ := PyProof.Rows.sortedAll_at s.heap its out.toArray
    have hl2 : (ys.map fun t => V.ref t.1).length ≤ sizeLine := by
      rw [r1.length, ho]
      exact hlen
    exact ⟨.ref _, upd H (s.heap.objs.size + 1) (.lst (ys.map fun t => V.ref t.1)), I.laid (t' := s.toks) (fun _ _ => PyProof.Rows.sortedAll_old) (Nat.le_succ _) ⟨hl2, out, ep, r1, he⟩, rfl, q _ ys (I.hok.fresh (Nat.le_succ _)) r2 r3⟩
end
end So

namespace So
open PySem PySem.Spec PyProof.Rows L2
section
variable {X : Cx} {CX : CXT} {k : Nat} {C f : Addr} {fd : FuncData} {ps : List Str} {sp : Sp} {E : XK}
/-- str(o) of an instance whose class has an own __str__ -/
theorem call_strOwn (F : FnOk X.prog X.w X.K X.mg X.base CX k f fd ps sp) (hs : PySem.W.findIn X.K (.ref C) "__str__" = some (some (.ref f))) (hf : PySem.W.isFn X.K (.ref f) = true) (hb : Binds X.K fd ps []) (hx : Passes CX X E) (hr : Room (k + 2) X.A) :
    CallR X (.type "str") (fun xs H Q => ∃ a dx fs, xs = [.ref a] ∧ H a = some (.ins C dx fs) ∧ sp [.ref a] H (fun v H' => ∃ t : Str, v = .str t ∧ Q (.str t) H') E) := by
  intro pins s σ H xs us Q I r h
  obtain ⟨a, dx, fs, rfl, ha, q⟩ := h
  obtain ⟨u, rfl, ru⟩ := vals1 r
  cases ru
  obtain ⟨mA, J, _⟩ := ins_get I.hok ha
  obtain ⟨od, J, _⟩ := J.look
  have hr2 : Room k X.A.in1.in1 := hr.in1.in1
  refine PySem.W.kso_call hr2.units0 I.kIn J hs hf ?_
  have e0 : Env0 X.prog X.w X.K X.mg X.base X.A.in1.in1 X.stack s H := I.env0.in1.in1
  have hl : ([Value.ref a] ++ ([] : List Value)).length = ps.length := (F.len _ _ _ _ q : [V.ref a].length = ps.length)
  refine wpAny_call (codeAny_mono (F.run X.A.in1.in1 X.stack s H ⟨[.ref a], []⟩ ([Value.ref a] ++ []) [.ref a] _ E hr2 e0 (hb s [Value.ref a] I.kIn hl) (show Vals [V.ref a] [Value.ref a] from .cons rfl .nil) q) fun r s' hq => ?_)
  match r, hq with
  | .error e, hq => exact hx pins σ H s e s' I hq
  | .ok (.ret u), hq =>
    obtain ⟨v, H', I', rv, t, ev, q'⟩ := I.after hq
    subst ev
    obtain ⟨tk, rfl⟩ := rv
    exact ⟨.str t, H', I', ⟨tk, rfl⟩, q'⟩
  | .ok .next, hq => exact hq.elim
  | .ok .brk, hq => exact hq.elim
  | .ok .cont, hq => exact hq.elim
end
end So

namespace So
open PySem PySem.Spec PyProof.Rows L2 StX
/-! ### rules of which the class is known at run time alone -/
section
variable {X : Cx} {α : Type} {p : α → Prop}
theorem pe_ex {e : Expr} {t : α → TE} (h : ∀ c, p c → PE X e (t c)) : PE X e (fun σ H Q => ∃ c, p c ∧ t c σ H Q) := ⟨fun pins s σ H Q I ⟨c, hp, z⟩ => (h c hp).run pins s σ H Q I z⟩
theorem op_ex {f : Value → Value → Sem Value} {t : α → R2} (h : ∀ c, p c → OpR X f (t c)) : OpR X f (fun x y H Q => ∃ c, p c ∧ t c x y H Q) := fun pins s σ H x y v u Q I rx ry ⟨c, hp, z⟩ => h c hp pins s σ H x y v u Q I rx ry z
theorem cr_ex {f : Value} {t : α → List V → Hp → VK → Prop} (h : ∀ c, p c → CallR X f (t c)) : CallR X f (fun xs H Q => ∃ c, p c ∧ t c xs H Q) := fun pins s σ H xs us Q I r ⟨c, hp, z⟩ => h c hp pins s σ H xs us Q I r z
end
section
variable {X : Cx} {CX : CXT} {k : Nat} {C f : Addr} {fd : FuncData} {ps : List Str} {sp : Sp} {E : XK} {e : Expr} {te : TE}
theorem fnR_of {P : Program} {w : World} {K : PySem.W.Frag} {mg : Str → Option Value} {base : Heap} (F : FnOk P w K mg base CX k f fd ps sp) (hb : Binds K fd ps []) : FnR P w K mg base CX k f sp :=
  (F.raw hb .nil).imp fun vs H Q E h => by rw [List.append_nil]; exact h
/-- C(*e), C an own class -/
theorem pe_makeS1 {x : Str} {p sp_ pos : Pos} (M : Mk X.K C f) (F : FnR X.prog X.w X.K X.mg X.base CX k f sp) (hr : Room (k + 1) X.A) (hg : Gl X x) (hm : X.mg x = some (.ref C)) (hx : Passes CX X E) (he : PE X e te) (hd : (x == ("__debug__" : Str)) = false := by decide)
    (hst : starEach [.Starred e sp_] X.env = [(true, eval e X.env)] := by rfl) :
    PE X (.Call (.Name x p) [.Starred e sp_] [] pos) (fun σ H Q => te σ H fun y H1 => ∃ a xs, y = V.ref a ∧ (SqT X.K H1 a xs ∨ SqL X.K H1 a xs) ∧ ∀ x dx, H1 x = Option.none → H1 dx = Option.none → dx ≠ x →
      sp (V.ref x :: xs) (upd (upd H1 dx (.own x)) x (.ins C dx [])) (fun v H2 => v = .non ∧ Q (.ref x) H2) E) := by
  refine ⟨fun pins s σ H Q I h => ?_⟩
  refine wpAny_Call_Name_kw (ld_glob I hg hm ?_ hd)
  refine PySem.W.callWith_S (h₀ := X.base) I.ok.mod.kin M.kp (thn (he.run pins s σ H _ I h) fun v s1 ⟨y, H1, I1, ry, a, xs, ey, hxs, q⟩ => ?_) hst
  subst ey
  obtain rfl : v = Value.ref a := ry
  exact star_any I1 hxs fun us s2 I2 rv => ⟨I2.kIn, run_makeR M F hr hx I2 rv q⟩
theorem call_str_bl : CallR X (.type "str") (fun xs H Q => ∃ b, xs = [.bl b] ∧ Q (.str (if b then "True" else "False")) H) := by
  intro pins s σ H xs us Q I r h
  obtain ⟨b, rfl, q⟩ := h
  obtain ⟨u, rfl, r1⟩ := vals1 r
  cases r1
  exact PySem.P.str_of_bool ⟨.str _, H, I.tok _, ⟨_, rfl⟩, q⟩
end
end So

namespace K13
open PySem PySem.Spec PyProof.Rows L2 So LamX
abbrev sMade : Stmt := topS 61
theorem scMade : FnScope ["_law_row", "_law_kind"] ["_law_row"] (defScope sMade) := ⟨rfl, rfl, rfl, by decide +kernel, rfl, by decide +kernel, by decide +kernel⟩
section
variable {P : Program} {w : World} {K : PySem.W.Frag} {mg : Str → Option Value} {base : Heap}
/-- behind C(..), C a row's class -/
theorem made_row {CN CM CS C : Addr} {kind : Str} {xs : List V} {H : Hp} {Q : VK} {E : XK} (hl : xs.length = (formsOf kind).length) (hg : ∀ y ∈ xs, ∃ T, Gv H y T)
    (h : WaysL CN CM CS (xs.zip (formsOf kind)) H E (∀ (H' : Hp) (a dx : Addr) fs, Same H H' → H' a = some (.ins C dx fs) → Told kind xs H' fs → Q (.ref a) H')) :
    ∀ x dx, H x = none → H dx = none → dx ≠ x → spRow CN CM CS C kind (.ref x :: (xs ++ [])) (upd (upd H dx (.own x)) x (.ins C dx [])) (fun v H2 => v = .non ∧ Q (.ref x) H2) E := by
  intro x dx hx hd ne
  have s0 : Same H (upd (upd H dx (.own x)) x (.ins C dx [])) := fun c o e => by
    rw [upd_ne (ne_of_none e hx), upd_ne (ne_of_none e hd)]
    exact e
  refine ⟨x, dx, xs, by rw [List.append_nil], upd_same, hl, (fun y hy => (hg y hy).elim fun T h => ⟨T, h.same s0⟩), fun gd H' fs o e lk => ⟨rfl, h.1 gd H' x dx fs (fun c u z => o c u (ne_of_none z hx) (s0 c u z)) e lk⟩, fun C' fl v g d H' s e => h.2 C' fl v g d H' (s0.trans s) e⟩
/-- at a there stands the row of this kind with these arguments -/
def RowAt (Cf : Str → Addr) (H : Hp) (a : Addr) (kind : Str) (xs : List V) : Prop := ∃ (dx : Addr) (fs : List (Str × V)), H a = some (.ins (Cf kind) dx fs) ∧ Told kind xs H fs
theorem RowAt.same {Cf : Str → Addr} {H H' : Hp} {a : Addr} {kind : Str} {xs : List V} (h : RowAt Cf H a kind xs) (s : Same H H') : RowAt Cf H' a kind xs := by
  obtain ⟨dx, fs, e, t1, ⟨tp, t2, t3⟩, t4⟩ := h
  exact ⟨dx, fs, s _ _ e, t1, ⟨tp, t2, s _ _ t3⟩, t4⟩
/-- a class of rows, its maker -/
def RowM (K : PySem.W.Frag) (P : Program) (w : World) (mg : Str → Option Value) (base : Heap) (CN CM CS : Addr) (Cf : Str → Addr) (nm kind : Str) (ps : List Str) : Prop := ∃ (fI : Addr) (fdI : FuncData), mg nm = some (.ref (Cf kind)) ∧ Mk K (Cf kind) fI ∧ Binds K fdI ps [] ∧ FnOk P w K mg base (L2.CX P w) 6 fI fdI ps (spRow CN CM CS (Cf kind) kind)
structure Rows (K : PySem.W.Frag) (P : Program) (w : World) (mg : Str → Option Value) (base : Heap) (CN CM CS : Addr) (Cf : Str → Addr) : Prop where
  begun : RowM K P w mg base CN CM CS Cf "Begun" "begun" ["self", "tool", "moment"]
  setby : RowM K P w mg base CN CM CS Cf "SetBy" "setby" ["self", "tool", "moment", "by"]
  found : RowM K P w mg base CN CM CS Cf "Found" "found" ["self", "tool", "moment", "is_sound"]
  trusted : RowM K P w mg base CN CM CS Cf "Trusted" "trusted" ["self", "tool"]
  passed : RowM K P w mg base CN CM CS Cf "Passed" "passed" ["self", "tool", "moment", "by"]
  failed : RowM K P w mg base CN CM CS Cf "Failed" "failed" ["self", "tool", "moment", "by"]
  agreed : RowM K P w mg base CN CM CS Cf "Agreed" "agreed" ["self", "one", "moment", "other", "later"]
  differed : RowM K P w mg base CN CM CS Cf "Differed" "differed" ["self", "one", "moment", "other", "later"]
  served : RowM K P w mg base CN CM CS Cf "Served" "served" ["self", "one", "moment", "other", "later"]
  backed : RowM K P w mg base CN CM CS Cf "Backed" "backed" ["self", "one", "moment", "other", "later"]
def spMade (CN CM CS : Addr) (Cf : Str → Addr) : Sp := fun vs H Q E => ∃ (lr : Addr) (kind : Str) (xs : List V), vs = [.ref lr] ∧ H lr = some (.tup (.str kind :: xs)) ∧ kind ∈ kinds ∧ xs.length = (formsOf kind).length ∧ (∀ y ∈ xs, ∃ T, Gv H y T) ∧
  WaysL CN CM CS (xs.zip (formsOf kind)) H E (∀ (H' : Hp) (a : Addr), Same H H' → RowAt Cf H' a kind xs → Q (.ref a) H')
theorem kinds_end : ∀ kind ∈ kinds, ¬ kind = "begun" → ¬ kind = "setby" → ¬ kind = "found" → ¬ kind = "trusted" → ¬ kind = "passed" → ¬ kind = "failed" → ¬ kind = "agreed" → ¬ kind = "differed" → ¬ kind = "served" → kind = "backed" := by
  intro kind hk h0 h1 h2 h3 h4 h5 h6 h7 h8
  unfold kinds at hk
  simp only [List.mem_cons, List.not_mem_nil, or_false] at hk
  rcases hk with h | h | h | h | h | h | h | h | h | h <;> first | exact h | exact absurd h (by assumption)
theorem ok_made {CN CM CS f : Addr} {Cf : Str → Addr} {fd : FuncData} (F : Fun K "_law_made" "_law_made" sMade f fd) (R : Rows K P w mg base CN CM CS Cf) : FnOk P w K mg base (L2.CX P w) 8 f fd ["_law_row"] (spMade CN CM CS Cf) := by
  obtain ⟨f_begun, fd_begun, g_begun, m_begun, b_begun, G_begun⟩ := R.begun
  obtain ⟨f_setby, fd_setby, g_setby, m_setby, b_setby, G_setby⟩ := R.setby
  obtain ⟨f_found, fd_found, g_found, m_found, b_found, G_found⟩ := R.found
  obtain ⟨f_trusted, fd_trusted, g_trusted, m_trusted, b_trusted, G_trusted⟩ := R.trusted
  obtain ⟨f_passed, fd_passed, g_passed, m_passed, b_passed, G_passed⟩ := R.passed
  obtain ⟨f_failed, fd_failed, g_failed, m_failed, b_failed, G_failed⟩ := R.failed
  obtain ⟨f_agreed, fd_agreed, g_agreed, m_agreed, b_agreed, G_agreed⟩ := R.agreed
  obtain ⟨f_differed, fd_differed, g_differed, m_differed, b_differed, G_differed⟩ := R.differed
  obtain ⟨f_served, fd_served, g_served, m_served, b_served, G_served⟩ := R.served
  obtain ⟨f_backed, fd_backed, g_backed, m_backed, b_backed, G_backed⟩ := R.backed
  refine F.okX scMade (fun vs H Q E h => ?_) (fun cdv A outer s H vs Q E hr h => ?_)
  · obtain ⟨_, _, _, rfl, _⟩ := h
    rfl
  · obtain ⟨lr, kind, xs, rfl, hlr, hk, hl, hg, hw⟩ := h
    refine ⟨_, pss_cons (ps_set (i := 1) scMade.nd rfl (.inl rfl) (pe_ix ix_tup (pv 0) pe_int (fun _ _ => rfl)))
      (pss_cons (ps_if (pt_cmpR op_eq (pv 1) pe_str (nomark _)) (pss_one (ps_ret (pe_make m_begun G_begun hr (by rfl) g_begun b_begun .nil (passes_call (takes_of rfl rfl rfl rfl) (fun _ _ _ _ h => h)) (pa_cons (pe_ix ix_tup (pv 0) pe_int (fun _ _ => rfl)) (pa_cons (pe_ix ix_tup (pv 0) pe_int (fun _ _ => rfl)) pa_nil))))) pss_nil)
      (pss_cons (ps_if (pt_cmpR op_eq (pv 1) pe_str (nomark _)) (pss_one (ps_ret (pe_make m_setby G_setby hr (by rfl) g_setby b_setby .nil (passes_call (takes_of rfl rfl rfl rfl) (fun _ _ _ _ h => h)) (pa_cons (pe_ix ix_tup (pv 0) pe_int (fun _ _ => rfl)) (pa_cons (pe_ix ix_tup (pv 0) pe_int (fun _ _ => rfl)) (pa_cons (pe_ix ix_tup (pv 0) pe_int (fun _ _ => rfl)) pa_nil)))))) pss_nil)
      (pss_cons (ps_if (pt_cmpR op_eq (pv 1) pe_str (nomark _)) (pss_one (ps_ret (pe_make m_found G_found hr (by rfl) g_found b_found .nil (passes_call (takes_of rfl rfl rfl rfl) (fun _ _ _ _ h => h)) (pa_cons (pe_ix ix_tup (pv 0) pe_int (fun _ _ => rfl)) (pa_cons (pe_ix ix_tup (pv 0) pe_int (fun _ _ => rfl)) (pa_cons (pe_ix ix_tup (pv 0) pe_int (fun _ _ => rfl)) pa_nil)))))) pss_nil)
      (pss_cons (ps_if (pt_cmpR op_eq (pv 1) pe_str (nomark _)) (pss_one (ps_ret (pe_make m_trusted G_trusted hr (by rfl) g_trusted b_trusted .nil (passes_call (takes_of rfl rfl rfl rfl) (fun _ _ _ _ h => h)) (pa_cons (pe_ix ix_tup (pv 0) pe_int (fun _ _ => rfl)) pa_nil)))) pss_nil)
      (pss_cons (ps_if (pt_cmpR op_eq (pv 1) pe_str (nomark _)) (pss_one (ps_ret (pe_make m_passed G_passed hr (by rfl) g_passed b_passed .nil (passes_call (takes_of rfl rfl rfl rfl) (fun _ _ _ _ h => h)) (pa_cons (pe_ix ix_tup (pv 0) pe_int (fun _ _ => rfl)) (pa_cons (pe_ix ix_tup (pv 0) pe_int (fun _ _ => rfl)) (pa_cons (pe_ix ix_tup (pv 0) pe_int (fun _ _ => rfl)) pa_nil)))))) pss_nil)
      (pss_cons (ps_if (pt_cmpR op_eq (pv 1) pe_str (nomark _)) (pss_one (ps_ret (pe_make m_failed G_failed hr (by rfl) g_failed b_failed .nil (passes_call (takes_of rfl rfl rfl rfl) (fun _ _ _ _ h => h)) (pa_cons (pe_ix ix_tup (pv 0) pe_int (fun _ _ => rfl)) (pa_cons (pe_ix ix_tup (pv 0) pe_int (fun _ _ => rfl)) (pa_cons (pe_ix ix_tup (pv 0) pe_int (fun _ _ => rfl)) pa_nil)))))) pss_nil)
      (pss_cons (ps_if (pt_cmpR op_eq (pv 1) pe_str (nomark _)) (pss_one (ps_ret (pe_make m_agreed G_agreed hr (by rfl) g_agreed b_agreed .nil (passes_call (takes_of rfl rfl rfl rfl) (fun _ _ _ _ h => h)) (pa_cons (pe_ix ix_tup (pv 0) pe_int (fun _ _ => rfl)) (pa_cons (pe_ix ix_tup (pv 0) pe_int (fun _ _ => rfl)) (pa_cons (pe_ix ix_tup (pv 0) pe_int (fun _ _ => rfl)) (pa_cons (pe_ix ix_tup (pv 0) pe_int (fun _ _ => rfl)) pa_nil))))))) pss_nil)
      (pss_cons (ps_if (pt_cmpR op_eq (pv 1) pe_str (nomark _)) (pss_one (ps_ret (pe_make m_differed G_differed hr (by rfl) g_differed b_differed .nil (passes_call (takes_of rfl rfl rfl rfl) (fun _ _ _ _ h => h)) (pa_cons (pe_ix ix_tup (pv 0) pe_int (fun _ _ => rfl)) (pa_cons (pe_ix ix_tup (pv 0) pe_int (fun _ _ => rfl)) (pa_cons (pe_ix ix_tup (pv 0) pe_int (fun _ _ => rfl)) (pa_cons (pe_ix ix_tup (pv 0) pe_int (fun _ _ => rfl)) pa_nil))))))) pss_nil)
      (pss_cons (ps_if (pt_cmpR op_eq (pv 1) pe_str (nomark _)) (pss_one (ps_ret (pe_make m_served G_served hr (by rfl) g_served b_served .nil (passes_call (takes_of rfl rfl rfl rfl) (fun _ _ _ _ h => h)) (pa_cons (pe_ix ix_tup (pv 0) pe_int (fun _ _ => rfl)) (pa_cons (pe_ix ix_tup (pv 0) pe_int (fun _ _ => rfl)) (pa_cons (pe_ix ix_tup (pv 0) pe_int (fun _ _ => rfl)) (pa_cons (pe_ix ix_tup (pv 0) pe_int (fun _ _ => rfl)) pa_nil))))))) pss_nil)
      (pss_one (ps_ret (pe_make m_backed G_backed hr (by rfl) g_backed b_backed .nil (passes_call (takes_of rfl rfl rfl rfl) (fun _ _ _ _ h => h)) (pa_cons (pe_ix ix_tup (pv 0) pe_int (fun _ _ => rfl)) (pa_cons (pe_ix ix_tup (pv 0) pe_int (fun _ _ => rfl)) (pa_cons (pe_ix ix_tup (pv 0) pe_int (fun _ _ => rfl)) (pa_cons (pe_ix ix_tup (pv 0) pe_int (fun _ _ => rfl)) pa_nil)))))))))))))))), ?_⟩
    refine ⟨_, rfl, lr, _, _, _, rfl, rfl, SqT.of hlr, atI_nat (j := 0) rfl, ?_⟩
    refine ⟨_, rfl, rfl, _, rfl, ite2 (fun e => ?_) (fun e0 => ?_)⟩
    · obtain rfl : kind = "begun" := V.str.inj (of_decide_eq_true e)
      have hl4 : (formsOf "begun").length = 2 := by decide +kernel
      obtain ⟨v0, v1, rfl⟩ : ∃ v0 v1, xs = [v0, v1] := by
        rw [hl4] at hl
        match xs, hl with
        | [v0, v1], _ => exact ⟨_, _, rfl⟩
      exact ⟨_, rfl, lr, _, _, _, rfl, rfl, SqT.of hlr, atI_nat (j := 1) rfl, _, rfl, lr, _, _, _, rfl, rfl, SqT.of hlr, atI_nat (j := 2) rfl, made_row (xs := [v0, v1]) hl hg ⟨fun gd H' a dx fs s e lk => hw.1 gd H' a s ⟨dx, fs, e, lk⟩, hw.2⟩⟩
    refine ⟨_, rfl, rfl, _, rfl, ite2 (fun e => ?_) (fun e1 => ?_)⟩
    · obtain rfl : kind = "setby" := V.str.inj (of_decide_eq_true e)
      have hl4 : (formsOf "setby").length = 3 := by decide +kernel
      obtain ⟨v0, v1, v2, rfl⟩ : ∃ v0 v1 v2, xs = [v0, v1, v2] := by
        rw [hl4] at hl
        match xs, hl with
        | [v0, v1, v2], _ => exact ⟨_, _, _, rfl⟩
      exact ⟨_, rfl, lr, _, _, _, rfl, rfl, SqT.of hlr, atI_nat (j := 1) rfl, _, rfl, lr, _, _, _, rfl, rfl, SqT.of hlr, atI_nat (j := 2) rfl, _, rfl, lr, _, _, _, rfl, rfl, SqT.of hlr, atI_nat (j := 3) rfl, made_row (xs := [v0, v1, v2]) hl hg ⟨fun gd H' a dx fs s e lk => hw.1 gd H' a s ⟨dx, fs, e, lk⟩, hw.2⟩⟩
    refine ⟨_, rfl, rfl, _, rfl, ite2 (fun e => ?_) (fun e2 => ?_)⟩
    · obtain rfl : kind = "found" := V.str.inj (of_decide_eq_true e)
      have hl4 : (formsOf "found").length = 3 := by decide +kernel
      obtain ⟨v0, v1, v2, rfl⟩ : ∃ v0 v1 v2, xs = [v0, v1, v2] := by
        rw [hl4] at hl
        match xs, hl with
        | [v0, v1, v2], _ => exact ⟨_, _, _, rfl⟩
      exact ⟨_, rfl, lr, _, _, _, rfl, rfl, SqT.of hlr, atI_nat (j := 1) rfl, _, rfl, lr, _, _, _, rfl, rfl, SqT.of hlr, atI_nat (j := 2) rfl, _, rfl, lr, _, _, _, rfl, rfl, SqT.of hlr, atI_nat (j := 3) rfl, made_row (xs := [v0, v1, v2]) hl hg ⟨fun gd H' a dx fs s e lk => hw.1 gd H' a s ⟨dx, fs, e, lk⟩, hw.2⟩⟩
    refine ⟨_, rfl, rfl, _, rfl, ite2 (fun e => ?_) (fun e3 => ?_)⟩
    · obtain rfl : kind = "trusted" := V.str.inj (of_decide_eq_true e)
      have hl4 : (formsOf "trusted").length = 1 := by decide +kernel
      obtain ⟨v0, rfl⟩ : ∃ v0, xs = [v0] := by
        rw [hl4] at hl
        match xs, hl with
        | [v0], _ => exact ⟨_, rfl⟩
      exact ⟨_, rfl, lr, _, _, _, rfl, rfl, SqT.of hlr, atI_nat (j := 1) rfl, made_row (xs := [v0]) hl hg ⟨fun gd H' a dx fs s e lk => hw.1 gd H' a s ⟨dx, fs, e, lk⟩, hw.2⟩⟩
    refine ⟨_, rfl, rfl, _, rfl, ite2 (fun e => ?_) (fun e4 => ?_)⟩
    · obtain rfl : kind = "passed" := V.str.inj (of_decide_eq_true e)
      have hl4 : (formsOf "passed").length = 3 := by decide +kernel
      obtain ⟨v0, v1, v2, rfl⟩ : ∃ v0 v1 v2, xs = [v0, v1, v2] := by
        rw [hl4] at hl
        match xs, hl with
        | [v0, v1, v2], _ => exact ⟨_, _, _, rfl⟩
      exact ⟨_, rfl, lr, _, _, _, rfl, rfl, SqT.of hlr, atI_nat (j := 1) rfl, _, rfl, lr, _, _, _, rfl, rfl, SqT.of hlr, atI_nat (j := 2) rfl, _, rfl, lr, _, _, _, rfl, rfl, SqT.of hlr, atI_nat (j := 3) rfl, made_row (xs := [v0, v1, v2]) hl hg ⟨fun gd H' a dx fs s e lk => hw.1 gd H' a s ⟨dx, fs, e, lk⟩, hw.2⟩⟩
    refine ⟨_, rfl, rfl, _, rfl, ite2 (fun e => ?_) (fun e5 => ?_)⟩
    · obtain rfl : kind = "failed" := V.str.inj (of_decide_eq_true e)
      have hl4 : (formsOf "failed").length = 3 := by decide +kernel
      obtain ⟨v0, v1, v2, rfl⟩ : ∃ v0 v1 v2, xs = [v0, v1, v2] := by
        rw [hl4] at hl
        match xs, hl with
        | [v0, v1, v2], _ => exact ⟨_, _, _, rfl⟩
      exact ⟨_, rfl, lr, _, _, _, rfl, rfl, SqT.of hlr, atI_nat (j := 1) rfl, _, rfl, lr, _, _, _, rfl, rfl, SqT.of hlr, atI_nat (j := 2) rfl, _, rfl, lr, _, _, _, rfl, rfl, SqT.of hlr, atI_nat (j := 3) rfl, made_row (xs := [v0, v1, v2]) hl hg ⟨fun gd H' a dx fs s e lk => hw.1 gd H' a s ⟨dx, fs, e, lk⟩, hw.2⟩⟩
    refine ⟨_, rfl, rfl, _, rfl, ite2 (fun e => ?_) (fun e6 => ?_)⟩
    · obtain rfl : kind = "agreed" := V.str.inj (of_decide_eq_true e)
      have hl4 : (formsOf "agreed").length = 4 := by decide +kernel
      obtain ⟨v0, v1, v2, v3, rfl⟩ : ∃ v0 v1 v2 v3, xs = [v0, v1, v2, v3] := by
        rw [hl4] at hl
        match xs, hl with
        | [v0, v1, v2, v3], _ => exact ⟨_, _, _, _, rfl⟩
      exact ⟨_, rfl, lr, _, _, _, rfl, rfl, SqT.of hlr, atI_nat (j := 1) rfl, _, rfl, lr, _, _, _, rfl, rfl, SqT.of hlr, atI_nat (j := 2) rfl, _, rfl, lr, _, _, _, rfl, rfl, SqT.of hlr, atI_nat (j := 3) rfl, _, rfl, lr, _, _, _, rfl, rfl, SqT.of hlr, atI_nat (j := 4) rfl, made_row (xs := [v0, v1, v2, v3]) hl hg ⟨fun gd H' a dx fs s e lk => hw.1 gd H' a s ⟨dx, fs, e, lk⟩, hw.2⟩⟩
    refine ⟨_, rfl, rfl, _, rfl, ite2 (fun e => ?_) (fun e7 => ?_)⟩
    · obtain rfl : kind = "differed" := V.str.inj (of_decide_eq_true e)
      have hl4 : (formsOf "differed").length = 4 := by decide +kernel
      obtain ⟨v0, v1, v2, v3, rfl⟩ : ∃ v0 v1 v2 v3, xs = [v0, v1, v2, v3] := by
        rw [hl4] at hl
        match xs, hl with
        | [v0, v1, v2, v3], _ => exact ⟨_, _, _, _, rfl⟩
      exact ⟨_, rfl, lr, _, _, _, rfl, rfl, SqT.of hlr, atI_nat (j := 1) rfl, _, rfl, lr, _, _, _, rfl, rfl, SqT.of hlr, atI_nat (j := 2) rfl, _, rfl, lr, _, _, _, rfl, rfl, SqT.of hlr, atI_nat (j := 3) rfl, _, rfl, lr, _, _, _, rfl, rfl, SqT.of hlr, atI_nat (j := 4) rfl, made_row (xs := [v0, v1, v2, v3]) hl hg ⟨fun gd H' a dx fs s e lk => hw.1 gd H' a s ⟨dx, fs, e, lk⟩, hw.2⟩⟩
    refine ⟨_, rfl, rfl, _, rfl, ite2 (fun e => ?_) (fun e8 => ?_)⟩
    · obtain rfl : kind = "served" := V.str.inj (of_decide_eq_true e)
      have hl4 : (formsOf "served").length = 4 := by decide +kernel
      obtain ⟨v0, v1, v2, v3, rfl⟩ : ∃ v0 v1 v2 v3, xs = [v0, v1, v2, v3] := by
        rw [hl4] at hl
        match xs, hl with
        | [v0, v1, v2, v3], _ => exact ⟨_, _, _, _, rfl⟩
      exact ⟨_, rfl, lr, _, _, _, rfl, rfl, SqT.of hlr, atI_nat (j := 1) rfl, _, rfl, lr, _, _, _, rfl, rfl, SqT.of hlr, atI_nat (j := 2) rfl, _, rfl, lr, _, _, _, rfl, rfl, SqT.of hlr, atI_nat (j := 3) rfl, _, rfl, lr, _, _, _, rfl, rfl, SqT.of hlr, atI_nat (j := 4) rfl, made_row (xs := [v0, v1, v2, v3]) hl hg ⟨fun gd H' a dx fs s e lk => hw.1 gd H' a s ⟨dx, fs, e, lk⟩, hw.2⟩⟩
    obtain rfl : kind = "backed" := kinds_end kind hk (fun z => e0 (decide_eq_true (by rw [z]))) (fun z => e1 (decide_eq_true (by rw [z]))) (fun z => e2 (decide_eq_true (by rw [z]))) (fun z => e3 (decide_eq_true (by rw [z]))) (fun z => e4 (decide_eq_true (by rw [z]))) (fun z => e5 (decide_eq_true (by rw [z]))) (fun z => e6 (decide_eq_true (by rw [z]))) (fun z => e7 (decide_eq_true (by rw [z]))) (fun z => e8 (decide_eq_true (by rw [z])))
    have hl4 : (formsOf "backed").length = 4 := by decide +kernel
    obtain ⟨v0, v1, v2, v3, rfl⟩ : ∃ v0 v1 v2 v3, xs = [v0, v1, v2, v3] := by
      rw [hl4] at hl
      match xs, hl with
      | [v0, v1, v2, v3], _ => exact ⟨_, _, _, _, rfl⟩
    exact ⟨_, rfl, lr, _, _, _, rfl, rfl, SqT.of hlr, atI_nat (j := 1) rfl, _, rfl, lr, _, _, _, rfl, rfl, SqT.of hlr, atI_nat (j := 2) rfl, _, rfl, lr, _, _, _, rfl, rfl, SqT.of hlr, atI_nat (j := 3) rfl, _, rfl, lr, _, _, _, rfl, rfl, SqT.of hlr, atI_nat (j := 4) rfl, made_row (xs := [v0, v1, v2, v3]) hl hg ⟨fun gd H' a dx fs s e lk => hw.1 gd H' a s ⟨dx, fs, e, lk⟩, hw.2⟩⟩
end
end K13

namespace K13
open PySem PySem.Spec PyProof.Rows L2 So LamX
abbrev sMadeRow : Stmt := topS 46
theorem scMadeRow : FnScope ["kind", "told"] ["kind", "told"] (defScope sMadeRow) := ⟨rfl, rfl, rfl, by decide +kernel, rfl, by decide +kernel, by decide +kernel⟩
section
variable {P : Program} {w : World} {K : PySem.W.Frag} {mg : Str → Option Value} {base : Heap}
def spMadeRow (K : PySem.W.Frag) (CN CM CS : Addr) (Cf : Str → Addr) : Sp := fun vs H Q E => ∃ (lr : Addr) (kind : Str) (xs : List V), vs = [.str kind, .ref lr] ∧ H lr = some (.lst xs) ∧ kind ∈ kinds ∧ xs.length = (formsOf kind).length ∧ (∀ y ∈ xs, ∃ T, Gv H y T) ∧
  WaysL CN CM CS (xs.zip (formsOf kind)) H E (∀ (H' : Hp) (a : Addr), Same H H' → RowAt Cf H' a kind xs → Q (.ref a) H')
theorem madeRow0 {CN CM CS C : Addr} {kind : Str} {xs : List V} {H : Hp} {Q : VK} {E : XK} (hl : xs.length = (formsOf kind).length) (hg : ∀ y ∈ xs, ∃ T, Gv H y T)
    (h : WaysL CN CM CS (xs.zip (formsOf kind)) H E (∀ (H' : Hp) (a dx : Addr) fs, Same H H' → H' a = some (.ins C dx fs) → Told kind xs H' fs → Q (.ref a) H')) :
    ∀ x dx, H x = none → H dx = none → dx ≠ x → spRow CN CM CS C kind (.ref x :: xs) (upd (upd H dx (.own x)) x (.ins C dx [])) (fun v H2 => v = .non ∧ Q (.ref x) H2) E := by
  have := made_row hl hg h
  rw [List.append_nil] at this
  exact this
theorem ok_madeRow {CN CM CS f : Addr} {Cf : Str → Addr} {fd : FuncData} (F : Fun K "made_row" "made_row" sMadeRow f fd) (R : Rows K P w mg base CN CM CS Cf) : FnOk P w K mg base (L2.CX P w) 8 f fd ["kind", "told"] (spMadeRow K CN CM CS Cf) := by
  obtain ⟨f_begun, fd_begun, g_begun, m_begun, b_begun, G_begun⟩ := R.begun
  obtain ⟨f_setby, fd_setby, g_setby, m_setby, b_setby, G_setby⟩ := R.setby
  obtain ⟨f_found, fd_found, g_found, m_found, b_found, G_found⟩ := R.found
  obtain ⟨f_trusted, fd_trusted, g_trusted, m_trusted, b_trusted, G_trusted⟩ := R.trusted
  obtain ⟨f_passed, fd_passed, g_passed, m_passed, b_passed, G_passed⟩ := R.passed
  obtain ⟨f_failed, fd_failed, g_failed, m_failed, b_failed, G_failed⟩ := R.failed
  obtain ⟨f_agreed, fd_agreed, g_agreed, m_agreed, b_agreed, G_agreed⟩ := R.agreed
  obtain ⟨f_differed, fd_differed, g_differed, m_differed, b_differed, G_differed⟩ := R.differed
  obtain ⟨f_served, fd_served, g_served, m_served, b_served, G_served⟩ := R.served
  obtain ⟨f_backed, fd_backed, g_backed, m_backed, b_backed, G_backed⟩ := R.backed
  refine F.okX scMadeRow (fun vs H Q E h => ?_) (fun cdv A outer s H vs Q E hr h => ?_)
  · obtain ⟨_, _, _, rfl, _⟩ := h
    rfl
  · obtain ⟨lr, kind, xs, rfl, hlr, hk, hl, hg, hw⟩ := h
    have hlr : SqT K H lr xs ∨ SqL K H lr xs := .inr (SqL.of hlr)
    refine ⟨_, pss_cons (ps_if (pt_cmpR op_eq (pv 0) pe_str (nomark _)) (pss_one (ps_ret (pe_makeS1 m_begun (fnR_of G_begun b_begun) hr (by rfl) g_begun (passes_call (takes_of rfl rfl rfl rfl) (fun _ _ _ _ h => h)) (pv 1)))) pss_nil)
      (pss_cons (ps_if (pt_cmpR op_eq (pv 0) pe_str (nomark _)) (pss_one (ps_ret (pe_makeS1 m_setby (fnR_of G_setby b_setby) hr (by rfl) g_setby (passes_call (takes_of rfl rfl rfl rfl) (fun _ _ _ _ h => h)) (pv 1)))) pss_nil)
      (pss_cons (ps_if (pt_cmpR op_eq (pv 0) pe_str (nomark _)) (pss_one (ps_ret (pe_makeS1 m_found (fnR_of G_found b_found) hr (by rfl) g_found (passes_call (takes_of rfl rfl rfl rfl) (fun _ _ _ _ h => h)) (pv 1)))) pss_nil)
      (pss_cons (ps_if (pt_cmpR op_eq (pv 0) pe_str (nomark _)) (pss_one (ps_ret (pe_makeS1 m_trusted (fnR_of G_trusted b_trusted) hr (by rfl) g_trusted (passes_call (takes_of rfl rfl rfl rfl) (fun _ _ _ _ h => h)) (pv 1)))) pss_nil)
      (pss_cons (ps_if (pt_cmpR op_eq (pv 0) pe_str (nomark _)) (pss_one (ps_ret (pe_makeS1 m_passed (fnR_of G_passed b_passed) hr (by rfl) g_passed (passes_call (takes_of rfl rfl rfl rfl) (fun _ _ _ _ h => h)) (pv 1)))) pss_nil)
      (pss_cons (ps_if (pt_cmpR op_eq (pv 0) pe_str (nomark _)) (pss_one (ps_ret (pe_makeS1 m_failed (fnR_of G_failed b_failed) hr (by rfl) g_failed (passes_call (takes_of rfl rfl rfl rfl) (fun _ _ _ _ h => h)) (pv 1)))) pss_nil)
      (pss_cons (ps_if (pt_cmpR op_eq (pv 0) pe_str (nomark _)) (pss_one (ps_ret (pe_makeS1 m_agreed (fnR_of G_agreed b_agreed) hr (by rfl) g_agreed (passes_call (takes_of rfl rfl rfl rfl) (fun _ _ _ _ h => h)) (pv 1)))) pss_nil)
      (pss_cons (ps_if (pt_cmpR op_eq (pv 0) pe_str (nomark _)) (pss_one (ps_ret (pe_makeS1 m_differed (fnR_of G_differed b_differed) hr (by rfl) g_differed (passes_call (takes_of rfl rfl rfl rfl) (fun _ _ _ _ h => h)) (pv 1)))) pss_nil)
      (pss_cons (ps_if (pt_cmpR op_eq (pv 0) pe_str (nomark _)) (pss_one (ps_ret (pe_makeS1 m_served (fnR_of G_served b_served) hr (by rfl) g_served (passes_call (takes_of rfl rfl rfl rfl) (fun _ _ _ _ h => h)) (pv 1)))) pss_nil)
      (pss_one (ps_ret (pe_makeS1 m_backed (fnR_of G_backed b_backed) hr (by rfl) g_backed (passes_call (takes_of rfl rfl rfl rfl) (fun _ _ _ _ h => h)) (pv 1)))))))))))), ?_⟩
    refine ⟨_, rfl, rfl, _, rfl, ite2 (fun e => ?_) (fun e0 => ?_)⟩
    · obtain rfl : kind = "begun" := V.str.inj (of_decide_eq_true e)
      have hl4 : (formsOf "begun").length = 2 := by decide +kernel
      obtain ⟨v0, v1, rfl⟩ : ∃ v0 v1, xs = [v0, v1] := by
        rw [hl4] at hl
        match xs, hl with
        | [v0, v1], _ => exact ⟨_, _, rfl⟩
      exact ⟨_, rfl, lr, [v0, v1], rfl, hlr, madeRow0 (xs := [v0, v1]) hl hg ⟨fun gd H' a dx fs s e lk => hw.1 gd H' a s ⟨dx, fs, e, lk⟩, hw.2⟩⟩
    refine ⟨_, rfl, rfl, _, rfl, ite2 (fun e => ?_) (fun e1 => ?_)⟩
    · obtain rfl : kind = "setby" := V.str.inj (of_decide_eq_true e)
      have hl4 : (formsOf "setby").length = 3 := by decide +kernel
      obtain ⟨v0, v1, v2, rfl⟩ : ∃ v0 v1 v2, xs = [v0, v1, v2] := by
        rw [hl4] at hl
        match xs, hl with
        | [v0, v1, v2], _ => exact ⟨_, _, _, rfl⟩
      exact ⟨_, rfl, lr, [v0, v1, v2], rfl, hlr, madeRow0 (xs := [v0, v1, v2]) hl hg ⟨fun gd H' a dx fs s e lk => hw.1 gd H' a s ⟨dx, fs, e, lk⟩, hw.2⟩⟩
    refine ⟨_, rfl, rfl, _, rfl, ite2 (fun e => ?_) (fun e2 => ?_)⟩
    · obtain rfl : kind = "found" := V.str.inj (of_decide_eq_true e)
      have hl4 : (formsOf "found").length = 3 := by decide +kernel
      obtain ⟨v0, v1, v2, rfl⟩ : ∃ v0 v1 v2, xs = [v0, v1, v2] := by
        rw [hl4] at hl
        match xs, hl with
        | [v0, v1, v2], _ => exact ⟨_, _, _, rfl⟩
      exact ⟨_, rfl, lr, [v0, v1, v2], rfl, hlr, madeRow0 (xs := [v0, v1, v2]) hl hg ⟨fun gd H' a dx fs s e lk => hw.1 gd H' a s ⟨dx, fs, e, lk⟩, hw.2⟩⟩
    refine ⟨_, rfl, rfl, _, rfl, ite2 (fun e => ?_) (fun e3 => ?_)⟩
    · obtain rfl : kind = "trusted" := V.str.inj (of_decide_eq_true e)
      have hl4 : (formsOf "trusted").length = 1 := by decide +kernel
      obtain ⟨v0, rfl⟩ : ∃ v0, xs = [v0] := by
        rw [hl4] at hl
        match xs, hl with
        | [v0], _ => exact ⟨_, rfl⟩
      exact ⟨_, rfl, lr, [v0], rfl, hlr, madeRow0 (xs := [v0]) hl hg ⟨fun gd H' a dx fs s e lk => hw.1 gd H' a s ⟨dx, fs, e, lk⟩, hw.2⟩⟩
    refine ⟨_, rfl, rfl, _, rfl, ite2 (fun e => ?_) (fun e4 => ?_)⟩
    · obtain rfl : kind = "passed" := V.str.inj (of_decide_eq_true e)
      have hl4 : (formsOf "passed").length = 3 := by decide +kernel
      obtain ⟨v0, v1, v2, rfl⟩ : ∃ v0 v1 v2, xs = [v0, v1, v2] := by
        rw [hl4] at hl
        match xs, hl with
        | [v0, v1, v2], _ => exact ⟨_, _, _, rfl⟩
      exact ⟨_, rfl, lr, [v0, v1, v2], rfl, hlr, madeRow0 (xs := [v0, v1, v2]) hl hg ⟨fun gd H' a dx fs s e lk => hw.1 gd H' a s ⟨dx, fs, e, lk⟩, hw.2⟩⟩
    refine ⟨_, rfl, rfl, _, rfl, ite2 (fun e => ?_) (fun e5 => ?_)⟩
    · obtain rfl : kind = "failed" := V.str.inj (of_decide_eq_true e)
      have hl4 : (formsOf "failed").length = 3 := by decide +kernel
      obtain ⟨v0, v1, v2, rfl⟩ : ∃ v0 v1 v2, xs = [v0, v1, v2] := by
        rw [hl4] at hl
        match xs, hl with
        | [v0, v1, v2], _ => exact ⟨_, _, _, rfl⟩
      exact ⟨_, rfl, lr, [v0, v1, v2], rfl, hlr, madeRow0 (xs := [v0, v1, v2]) hl hg ⟨fun gd H' a dx fs s e lk => hw.1 gd H' a s ⟨dx, fs, e, lk⟩, hw.2⟩⟩
    refine ⟨_, rfl, rfl, _, rfl, ite2 (fun e => ?_) (fun e6 => ?_)⟩
    · obtain rfl : kind = "agreed" := V.str.inj (of_decide_eq_true e)
      have hl4 : (formsOf "agreed").length = 4 := by decide +kernel
      obtain ⟨v0, v1, v2, v3, rfl⟩ : ∃ v0 v1 v2 v3, xs = [v0, v1, v2, v3] := by
        rw [hl4] at hl
        match xs, hl with
        | [v0, v1, v2, v3], _ => exact ⟨_, _, _, _, rfl⟩
      exact ⟨_, rfl, lr, [v0, v1, v2, v3], rfl, hlr, madeRow0 (xs := [v0, v1, v2, v3]) hl hg ⟨fun gd H' a dx fs s e lk => hw.1 gd H' a s ⟨dx, fs, e, lk⟩, hw.2⟩⟩
    refine ⟨_, rfl, rfl, _, rfl, ite2 (fun e => ?_) (fun e7 => ?_)⟩
    · obtain rfl : kind = "differed" := V.str.inj (of_decide_eq_true e)
      have hl4 : (formsOf "differed").length = 4 := by decide +kernel
      obtain ⟨v0, v1, v2, v3, rfl⟩ : ∃ v0 v1 v2 v3, xs = [v0, v1, v2, v3] := by
        rw [hl4] at hl
        match xs, hl with
        | [v0, v1, v2, v3], _ => exact ⟨_, _, _, _, rfl⟩
      exact ⟨_, rfl, lr, [v0, v1, v2, v3], rfl, hlr, madeRow0 (xs := [v0, v1, v2, v3]) hl hg ⟨fun gd H' a dx fs s e lk => hw.1 gd H' a s ⟨dx, fs, e, lk⟩, hw.2⟩⟩
    refine ⟨_, rfl, rfl, _, rfl, ite2 (fun e => ?_) (fun e8 => ?_)⟩
    · obtain rfl : kind = "served" := V.str.inj (of_decide_eq_true e)
      have hl4 : (formsOf "served").length = 4 := by decide +kernel
      obtain ⟨v0, v1, v2, v3, rfl⟩ : ∃ v0 v1 v2 v3, xs = [v0, v1, v2, v3] := by
        rw [hl4] at hl
        match xs, hl with
        | [v0, v1, v2, v3], _ => exact ⟨_, _, _, _, rfl⟩
      exact ⟨_, rfl, lr, [v0, v1, v2, v3], rfl, hlr, madeRow0 (xs := [v0, v1, v2, v3]) hl hg ⟨fun gd H' a dx fs s e lk => hw.1 gd H' a s ⟨dx, fs, e, lk⟩, hw.2⟩⟩
    obtain rfl : kind = "backed" := kinds_end kind hk (fun z => e0 (decide_eq_true (by rw [z]))) (fun z => e1 (decide_eq_true (by rw [z]))) (fun z => e2 (decide_eq_true (by rw [z]))) (fun z => e3 (decide_eq_true (by rw [z]))) (fun z => e4 (decide_eq_true (by rw [z]))) (fun z => e5 (decide_eq_true (by rw [z]))) (fun z => e6 (decide_eq_true (by rw [z]))) (fun z => e7 (decide_eq_true (by rw [z]))) (fun z => e8 (decide_eq_true (by rw [z])))
    have hl4 : (formsOf "backed").length = 4 := by decide +kernel
    obtain ⟨v0, v1, v2, v3, rfl⟩ : ∃ v0 v1 v2 v3, xs = [v0, v1, v2, v3] := by
      rw [hl4] at hl
      match xs, hl with
      | [v0, v1, v2, v3], _ => exact ⟨_, _, _, _, rfl⟩
    exact ⟨_, rfl, lr, [v0, v1, v2, v3], rfl, hlr, madeRow0 (xs := [v0, v1, v2, v3]) hl hg ⟨fun gd H' a dx fs s e lk => hw.1 gd H' a s ⟨dx, fs, e, lk⟩, hw.2⟩⟩
end
end K13

namespace K13
open PySem PySem.Spec PyProof.Rows L2 So LamX StX
abbrev sEqR : Stmt := inClass (topS 32) 9
abbrev sStrR : Stmt := inClass (topS 32) 10
theorem scEqR : FnScope ["self", "other"] ["self", "other"] (defScope sEqR) := ⟨rfl, rfl, rfl, by decide +kernel, rfl, by decide +kernel, by decide +kernel⟩
theorem scStrR : FnScope ["self", "words", "value"] ["self"] (defScope sStrR) := ⟨rfl, rfl, rfl, by decide +kernel, rfl, by decide +kernel, by decide +kernel⟩
def flatD : V → Option PyData
  | .non => some .none
  | .bl b => some (.bool b)
  | .int i => some (.int i)
  | .str z => some (.str z)
  | _ => none
def flatDs : List V → Option (List PyData)
  | [] => some []
  | v :: r => match flatD v, flatDs r with
    | some d, some ds => some (d :: ds)
    | _, _ => none
section
variable {K : PySem.W.Frag}
theorem flatD_dp {H : Hp} {v : V} {d : PyData} (h : flatD v = some d) : Dp K H v d := by
  cases v with
  | non => cases h; exact .non
  | bl b => cases h; exact .bl b
  | int i => cases h; exact .int i
  | str z => cases h; exact .str z
  | _ => cases h
theorem flatDs_dp {H : Hp} : ∀ {xs : List V} {ds : List PyData}, flatDs xs = some ds → DpAll K H xs ds
  | [], ds, h => by
    cases h
    exact .nil
  | v :: r, ds, h => by
    unfold flatDs at h
    split at h
    · rename_i d es h1 h2
      cases h
      exact .cons (flatD_dp h1) (flatDs_dp h2)
    · cases h
end
/-! ### what is known of a name, a moment -/
theorem name_small {z : Str} (h : isName z = true) : ∀ c ∈ z.cps.toList, c < 128 := by
  have aln : ∀ c ∈ (letters ++ digits).cps.toList, c < 128 := by decide +kernel
  unfold isName at h
  simp only [Bool.and_eq_true] at h
  intro c hc
  exact aln c (of_decide_eq_true (List.all_eq_true.mp h.2 c hc))
theorem name_strOk {z : Str} (h : isName z = true) : PyData.strOk z = true := by
  unfold PyData.strOk
  rw [← Array.all_toList]
  exact List.all_eq_true.mpr fun c hc => decide_eq_true (Nat.lt_trans (name_small h c hc) (by decide))
theorem name_len {z : Str} (h : isName z = true) : z.length ≤ 8 := by
  unfold isName at h
  simp only [Bool.and_eq_true, decide_eq_true_eq] at h
  exact h.1.1.1.2
theorem mom_log {m : Int} (h : 0 ≤ m ∧ m ≤ 1000000000000000000000000000000) : m.natAbs.log2 < 1920 := by
  have : m.natAbs < 2 ^ 100 := by omega
  exact Nat.lt_of_lt_of_le (PySem.Flt.log2_lt_of (by decide) this) (by decide)
theorem mom_len {m : Int} (h : 0 ≤ m ∧ m ≤ 1000000000000000000000000000000) : (Str.ofString (toString m)).length ≤ 200 := by
  rw [PyProof.Rows.ofString_length]
  have : m.natAbs.log2 < 101 := PySem.Flt.log2_lt_of (by decide) (by omega : m.natAbs < 2 ^ 101)
  exact Nat.le_trans (int_text_length_le (k := 101) (by decide) this) (by decide)
/-- flat values as data -/
theorem flat_data : ∀ {xs : List V}, (∀ v ∈ xs, Flat1 v) → ∃ ds, flatDs xs = some ds ∧ PyData.canLayAll0 ds = true ∧ PyData.depthAll ds = 0 ∧ PyData.eqvAll ds ds = true
  | [], _ => ⟨[], rfl, rfl, rfl, rfl⟩
  | v :: r, h => by
    obtain ⟨ds, h1, h2, h3, h4⟩ := flat_data (xs := r) fun x hx => h x (List.mem_cons_of_mem _ hx)
    have hv := h v List.mem_cons_self
    cases hv with
    | @nam z hz => exact ⟨.str z :: ds, by unfold flatDs flatD; rw [h1], by simp [PyData.canLayAll0, PyData.canLay0, name_strOk hz, h2], by simp [PyData.depthAll, PyData.depth, h3], by simp [PyData.eqvAll, PyData.eqv, h4]⟩
    | @mom m hm => exact ⟨.int m :: ds, by unfold flatDs flatD; rw [h1], by simp [PyData.canLayAll0, PyData.canLay0, h2], by simp [PyData.depthAll, PyData.depth, h3], by simp [PyData.eqvAll, PyData.eqv, h4]⟩
    | @tru b => exact ⟨.bool b :: ds, by unfold flatDs flatD; rw [h1], by simp [PyData.canLayAll0, PyData.canLay0, h2], by simp [PyData.depthAll, PyData.depth, h3], by simp [PyData.eqvAll, PyData.eqv, h4]⟩
theorem flat_tup {xs : List V} (h : ∀ v ∈ xs, Flat1 v) : ∃ d : PyData, SeqAt.shaped d = true ∧ PyData.eqv d d = true ∧ ∀ (K : PySem.W.Frag) (H : Hp) (p : Addr), H p = some (.tup xs) → Dp K H (.ref p) d := by
  obtain ⟨ds, h1, h2, h3, h4⟩ := flat_data h
  refine ⟨.tuple ds, ?_, ?_, fun K H p e => .tup (SqT.of e) (flatDs_dp h1)⟩
  · unfold SeqAt.shaped
    simp [PyData.canLay0, h2, PyData.depth, h3]
  · simp [PyData.eqv, h4]
theorem FlatRow.flat {kind : Str} {xs : List V} (h : FlatRow kind xs) : ∀ v ∈ xs, Flat1 v := by
  intro v hv
  obtain ⟨i, hi, e⟩ := List.mem_iff_getElem.mp hv
  have hz : (v, (formsOf kind)[i]'(by rw [← h.1]; exact hi)) ∈ xs.zip (formsOf kind) := List.mem_of_getElem? (i := i) (by
    rw [List.getElem?_zip_eq_some]
    exact ⟨by rw [List.getElem?_eq_getElem hi, e], List.getElem?_eq_getElem _⟩)
  exact (h.2 _ hz).2
/-! ### the text of a row -/
def wordV : V → Str
  | .str z => z
  | .int i => (toString i : String)
  | .bl b => if b then "sound" else "unsound"
  | _ => Str.empty
def rowText (kind : Str) (xs : List V) : Str := Txt.join " " (kind :: xs.map wordV)
theorem word_len {v : V} (h : Flat1 v) : (wordV v).length ≤ 200 := by
  cases h with
  | nam h => exact Nat.le_trans (name_len h) (by decide)
  | mom h => exact mom_len h
  | tru b => cases b <;> decide +kernel
theorem words_sum : ∀ {xs : List V}, (∀ v ∈ xs, Flat1 v) → ((xs.map wordV).map (·.length)).sum ≤ 200 * xs.length
  | [], _ => Nat.le_refl _
  | v :: r, h => by
    have h1 := word_len (h v List.mem_cons_self)
    have h2 := words_sum (xs := r) fun x hx => h x (List.mem_cons_of_mem _ hx)
    simp only [List.map_cons, List.sum_cons, List.length_cons]
    omega
theorem kind_len : ∀ kind ∈ kinds, kind.length ≤ 8 := by decide +kernel
theorem forms_len : ∀ kind ∈ kinds, (formsOf kind).length ≤ 4 := by decide +kernel
/-- what the top says of the rows' classes -/
structure RowsC (K : PySem.W.Frag) (mg : Str → Option Value) (Cf : Str → Addr) (CR : Addr) : Prop where
  gR : mg "Row" = some (.ref CR)
  c : ∀ kind ∈ kinds, RowC K (Cf kind) ("_told" :: "kind" :: attrsOf kind)
  kR : ∀ kind ∈ kinds, PySem.W.kitOne K (.ref (Cf kind)) (.ref CR) = some true
  ha : ∀ kind ∈ kinds, PySem.W.findIn K (.ref (Cf kind)) "__class__" = some (some (.builtin "object.__class__"))
  hn : PySem.W.specialIn K (.builtin "object.__class__") "__get__" = some (some (.builtin "getset_descriptor.__get__"))
  htk : PySem.W.takesIn K (.builtin "object.__class__") = some true
  hm : ∀ kind ∈ kinds, PySem.W.mroIn K (Cf kind) (.type "object") = some true
section
variable {P : Program} {w : World} {K : PySem.W.Frag} {mg : Str → Option Value} {base : Heap}
/-- word_of -/
def spWordOf : Sp := fun vs H Q _ => ∃ v, vs = [v] ∧ Flat1 v ∧ Q (.str (wordV v)) H
theorem ok_wordOf {f : Addr} {fd : FuncData} (F : Fun K "word_of" "word_of" sWordOf f fd) (W : Words K mg) : FnOk P w K mg base CX0 1 f fd ["value"] spWordOf := by
  refine F.ok scWordOf (fun vs H Q E h => ?_) (fun cdv A outer s H vs Q E hr h => ?_)
  · obtain ⟨_, rfl, _⟩ := h
    rfl
  · obtain ⟨v, rfl, hv, q⟩ := h
    refine ⟨_, pss_cons (ps_if (pt_val (pe_callB call_isi (by rfl) W.isi (by decide +kernel) (pa_cons (pv 0) (pa_cons (pe_bltn (v := .ty "bool") (by rfl) W.bool (by decide +kernel) rfl) pa_nil))))
      (pss_one (ps_ret (pe_ifExp (pt_val (pv 0)) pe_str pe_str))) pss_nil) (pss_one (ps_ret (pe_callTy (So.CallR.or SkE.call_str_str call_str_int) (by rfl) W.str (by decide +kernel) (pa_cons (pv 0) pa_nil)))), ?_⟩
    cases hv with
    | @nam z hz => exact ⟨_, rfl, _, _, _, _, false, rfl, .ty "bool", (Gv.str z (Nat.le_trans (name_len hz) (by decide))).ty, kit_ty (by decide +kernel), false, rfl, iteF ⟨_, rfl, .inl ⟨z, rfl, q⟩⟩⟩
    | @mom i hi => exact ⟨_, rfl, _, _, _, _, false, rfl, .ty "bool", (Gv.int i).ty, kit_int_bool, false, rfl, iteF ⟨_, rfl, .inr ⟨i, rfl, mom_log hi, q⟩⟩⟩
    | @tru b =>
      refine ⟨_, rfl, _, _, _, _, true, rfl, .ty "bool", .base (.bl b), kit_bool_bool, true, rfl, iteT ?_⟩
      refine ⟨_, rfl, b, rfl, ?_⟩
      cases b with
      | true => exact iteT q
      | false => exact iteF q
/-- the text of a row -/
def spStrR (Cf : Str → Addr) : Sp := fun vs H Q _ => ∃ (a : Addr) (kind : Str) (xs : List V), vs = [.ref a] ∧ kind ∈ kinds ∧ FlatRow kind xs ∧ RowAt Cf H a kind xs ∧ ∀ H', Same H H' → Q (.str (rowText kind xs)) H'
theorem ok_strR {Cf : Str → Addr} {CR f fW : Addr} {fd fdW : FuncData} (F : Fun K "__str__" "Row.__str__" sStrR f fd) (T : RowsC K mg Cf CR) (FW : Fun K "word_of" "word_of" sWordOf fW fdW) (bW : Binds K fdW ["value"] []) (gW : mg "word_of" = some (.ref fW)) (GW : FnOk P w K mg base CX0 1 fW fdW ["value"] spWordOf) :
    FnOk P w K mg base CX0 2 f fd ["self"] (spStrR Cf) := by
  refine F.ok scStrR (fun vs H Q E h => ?_) (fun cdv A outer s H vs Q E hr h => ?_)
  · obtain ⟨_, _, _, rfl, _⟩ := h
    rfl
  · obtain ⟨a, kind, xs, rfl, hk, hf, hA, q⟩ := h
    refine ⟨_, pss_cons (ps_setLc (i := 1) (own := [("value", 2)]) (g := gName 2) (tt := tYes) rfl scStrR.nd rfl rfl (sw_true rfl rfl rfl (by decide +kernel)) (pi_tup (pe_fld (pv 0) rfl)) (blkOk_by (N := ["self", "words", "value"]) (sc := defScope sStrR) (by decide +kernel))
          (fun _ _ _ _ _ => pg_name (i := 2) scStrR.nd rfl (Or.inl rfl)) (fun _ _ _ _ _ => pts_nil)
          (fun _ _ _ _ _ => pe_call GW hr (by rfl) gW FW.kp bW .nil pass0 (pa_cons (pv 2) pa_nil)))
      (pss_one (ps_ret (pe_join pe_str (pe_lst (pa_cons (pe_fld (pv 0) rfl) (pa_star (pv 1) pa_nil)))))), ?_⟩
    obtain ⟨dx, fs, ha, t1, ⟨tp, t2, t3⟩, _⟩ := id hA
    have cl := (T.c kind hk).cl
    have n0 := (T.c kind hk).no "_told" (by simp)
    have n1 := (T.c kind hk).no "kind" (by simp)
    have hfl := hf.flat
    have hl4 : xs.length ≤ 4 := by rw [hf.1]; exact forms_len kind hk
    have hsz := sizeLine_eq
    refine ⟨_, rfl, a, _, dx, _, _, rfl, ha, cl, n0, t2, tp, rfl, ⟨_, SqT.of t3⟩, fun D hD => ?_⟩
    refine lc_it walk_tup (fun k H' => Same H H' ∧ H' D = some (.lst ((xs.take k).map fun v => .str (wordV v)))) ⟨Same.over (Same.refl H) hD, upd_same⟩ (fun _ _ _ y => SqT.of (y.1 _ _ t3)) ?_ ?_
    · rintro k x H2 H3 hk2 ⟨s2, hDk⟩ ⟨rfl, hxk⟩
      have et : xs.take (k + 1) = xs.take k ++ [x] := by rw [List.take_add_one, hxk]; rfl
      refine ⟨rfl, _, rfl, x, rfl, hfl x (List.mem_of_getElem? hxk), _, hDk, ?_, Same.over s2 hD, ?_⟩
      · rw [List.length_map]
        have h2 : (xs.take k).length ≤ xs.length := List.length_take_le' _ _
        omega
      · rw [et, List.map_append]
        exact upd_same
    · rintro H2 ⟨s2, hDk⟩
      rw [List.take_length] at hDk
      have ha2 := s2 _ _ ha
      refine ⟨⟨_, rfl⟩, _, rfl, a, _, dx, _, _, rfl, ha2, cl, n1, t1, _, rfl, D, _, rfl, .inr (SqL.of hDk), ?_, fun p hp => ?_⟩
      · rw [List.append_nil, List.length_cons, List.length_map]
        omega
      · refine ⟨_, p, kind :: xs.map wordV, rfl, rfl, .inl (SqL.of ?_), ?_, q _ (s2.trans (same_upd0 hp))⟩
        · rw [upd_same, List.append_nil, List.map_cons, List.map_map]
          rfl
        · have := words_sum hfl
          have hk8 := kind_len kind hk
          have e3 : ((" " : Str)).length = 1 := by decide
          rw [List.map_cons, List.sum_cons, List.length_cons, List.length_map, e3]
          omega
/-- Row.__eq__ of two like rows -/
def spEqR (Cf : Str → Addr) : Sp := fun vs H Q _ => ∃ (a b : Addr) (kind : Str) (xs : List V), vs = [.ref a, .ref b] ∧ kind ∈ kinds ∧ FlatRow kind xs ∧ RowAt Cf H a kind xs ∧ RowAt Cf H b kind xs ∧ Q (.bl true) H
theorem ok_eqR {Cf : Str → Addr} {CR f : Addr} {fd : FuncData} (F : Fun K "__eq__" "Row.__eq__" sEqR f fd) (W : Words K mg) (T : RowsC K mg Cf CR) : FnOk P w K mg base CX0 1 f fd ["self", "other"] (spEqR Cf) := by
  refine F.ok scEqR (fun vs H Q E h => ?_) (fun cdv A outer s H vs Q E hr h => ?_)
  · obtain ⟨_, _, _, _, rfl, _⟩ := h
    rfl
  · obtain ⟨a, b, kind, xs, rfl, hk, hf, ⟨dx, fs, ha, tA⟩, ⟨dx', fs', hb, tB⟩, q⟩ := h
    have cl := (T.c kind hk).cl
    have n0 := (T.c kind hk).no "_told" (by simp)
    have n1 := (T.c kind hk).no "kind" (by simp)
    obtain ⟨k1, ⟨p1, e1, t1⟩, _⟩ := tA
    obtain ⟨k2, ⟨p2, e2, t2⟩, _⟩ := tB
    obtain ⟨d, sh, ev, hd⟩ := flat_tup hf.flat
    refine ⟨_, pss_one (ps_ret (pe_and (pe_callB call_isi (by rfl) W.isi (by decide +kernel) (pa_cons (pv 1) (pa_cons (pe_glob (v := .ref CR) rfl T.gR rfl) pa_nil))) (pe_and (pe_cmpR op_eq (pe_fld (pv 0) rfl) (pe_fld (pv 1) rfl) (nomark _)) (pe_one (pe_cmpR (op_eqD hr.units) (pe_fld (pv 0) rfl) (pe_fld (pv 1) rfl) (nomark _)))))), ?_⟩
    refine ⟨_, rfl, _, _, _, _, true, rfl, .own CR, .base (.ins hb cl (T.ha kind hk) T.hn T.htk (T.hm kind hk)), T.kR kind hk, true, rfl, iteT ?_⟩
    refine ⟨_, rfl, a, _, dx, _, _, rfl, ha, cl, n1, k1, _, rfl, b, _, dx', _, _, rfl, hb, cl, n1, k2, rfl, true, by simp, iteT ?_⟩
    refine ⟨_, rfl, a, _, dx, _, _, rfl, ha, cl, n0, e1, _, rfl, b, _, dx', _, _, rfl, hb, cl, n0, e2, d, d, hd _ _ _ t1, hd _ _ _ t2, sh, sh, ?_⟩
    rw [ev]
    exact q
end
end K13

namespace K13
open PySem PySem.Spec PyProof.Rows L2 So LamX
abbrev sNamed : Stmt := topS 59
abbrev sTicks : Stmt := topS 60
theorem scNamed : FnScope ["_law_row", "_law_part"] ["_law_row"] (defScope sNamed) := ⟨rfl, rfl, rfl, by decide +kernel, rfl, by decide +kernel, by decide +kernel⟩
theorem scTicks : FnScope ["_law_row", "_law_part"] ["_law_row"] (defScope sTicks) := ⟨rfl, rfl, rfl, by decide +kernel, rfl, by decide +kernel, by decide +kernel⟩
def isS : V → Bool
  | .str _ => true
  | _ => false
def isI : V → Bool
  | .int _ => true
  | _ => false
section
variable {P : Program} {w : World} {K : PySem.W.Frag} {mg : Str → Option Value} {base : Heap}
theorem isiK {X : Cx} {K : PySem.W.Frag} (h : X.K = K) : CallR X (.builtin "isinstance") (rIsi K) := h ▸ call_isi
theorem cut1 (v : V) (xs : List V) : cutV (v :: xs) (some 1) none = xs := by
  have e : HT.sIx (v :: xs).length 0 (some 1) = 1 := by
    have := HT.sIx_nat (v :: xs).length 0 1
    rw [show ((1 : Nat) : Int) = 1 from rfl] at this
    rw [this, List.length_cons]
    omega
  unfold cutV
  rw [e, HT.sIx_none]
  show List.take ((v :: xs).length - 1) xs = xs
  rw [List.length_cons]
  exact List.take_length
theorem cut1_not (v : V) (xs : List V) : ¬ (HT.sIx (v :: xs).length 0 (some 1) = 0 ∧ HT.sIx (v :: xs).length (v :: xs).length none = (v :: xs).length) := by
  have := HT.sIx_nat (v :: xs).length 0 1
  rw [show ((1 : Nat) : Int) = 1 from rfl] at this
  rw [this, List.length_cons]
  rintro ⟨h, _⟩
  omega
def spNamed (g : V → Bool) : Sp := fun vs H Q _ => ∃ (r : Addr) (kind : Str) (xs : List V), vs = [.ref r] ∧ H r = some (.tup (.str kind :: xs)) ∧ xs.length ≤ 8 ∧ (∀ y ∈ xs, Flat1 y) ∧ ∀ (H' : Hp) (l : Addr), Same H H' → H l = none → H' l = some (.lst (xs.filter g)) → Q (.ref l) H'
theorem ok_named {f : Addr} {fd : FuncData} (F : Fun K "_law_named" "_law_named" sNamed f fd) (mi : mg "isinstance" = none) (ms : mg "str" = none) : FnOk P w K mg base CX0 1 f fd ["_law_row"] (spNamed isS) := by
  refine F.ok scNamed (fun vs H Q E h => ?_) (fun cdv A outer s H vs Q E hr h => ?_)
  · obtain ⟨_, _, _, rfl, _⟩ := h
    rfl
  · obtain ⟨r, kind, xs, rfl, hx, hl, hf, q⟩ := h
    refine ⟨_, pss_one (ps_ret (pe_lc (own := [("_law_part", 1)]) (g := gName 1) rfl scNamed.nd (pi_tup (pe_slice sl_tup (pv 0) (po_some pe_int) po_none)) (blkOk_by (N := ["_law_row", "_law_part"]) (sc := defScope sNamed) (by decide +kernel))
          (fun _ _ _ _ _ => pg_name (i := 1) scNamed.nd rfl (Or.inl rfl)) (fun _ _ _ _ _ => pts_one (pt_val (pe_callB (isiK (K := K) rfl) (by rfl) mi (by decide +kernel) (pa_cons (pv 1) (pa_cons (pe_bltn (v := .ty "str") (by rfl) ms (by decide +kernel) rfl) pa_nil)))))
          (fun _ _ _ _ _ => pv 1))), ?_⟩
    refine ⟨_, rfl, _, rfl, r, V.str kind :: xs, rfl, SqT.of hx, cut1_not _ _, fun tp htp => ?_⟩
    rw [cut1]
    have s1 := same_upd0 (o := .tup xs) htp
    have ht : (upd H tp (.tup xs)) tp = some (.tup xs) := upd_same
    revert s1 ht
    generalize upd H tp (.tup xs) = H1
    intro s1 ht
    refine ⟨tp, rfl, ⟨_, SqT.of ht⟩, fun D hD => ?_⟩
    have hlen : ∀ k, ((xs.take k).filter isS).length < sizeLine := fun k => by
      have h1 := List.length_filter_le isS (xs.take k)
      have h2 : (xs.take k).length ≤ xs.length := List.length_take_le' _ _
      have := sizeLine_eq
      omega
    refine lc_it walk_tup (fun k H' => Same H1 H' ∧ H' D = some (.lst ((xs.take k).filter isS))) ⟨Same.over (Same.refl H1) hD, upd_same⟩ (fun _ _ _ y => SqT.of (y.1 _ _ ht)) ?_ ?_
    · rintro k x H2 H3 hk ⟨s2, hDk⟩ ⟨rfl, hxk⟩
      have et : xs.take (k + 1) = xs.take k ++ [x] := by rw [List.take_add_one, hxk]; rfl
      rw [et, List.filter_append]
      have hfx := hf x (List.mem_of_getElem? hxk)
      cases hfx with
      | @nam z hz =>
        refine ⟨rfl, _, rfl, _, _, _, _, true, rfl, .ty "str", (Gv.str z (Nat.le_trans (name_len hz) (by decide))).ty, kit_str_str, _, rfl, iteT ⟨_, rfl, _, hDk, hlen k, Same.over s2 hD, ?_⟩⟩
        exact upd_same
      | @mom i hi =>
        refine ⟨rfl, _, rfl, _, _, _, _, false, rfl, .ty "str", (Gv.int i).ty, kit_ty (by decide +kernel), _, rfl, iteF ⟨s2, ?_⟩⟩
        rw [hDk]
        simp [isS]
      | @tru b =>
        refine ⟨rfl, _, rfl, _, _, _, _, false, rfl, .ty "str", (Gv.bl b).ty, kit_ty (by decide +kernel), _, rfl, iteF ⟨s2, ?_⟩⟩
        rw [hDk]
        simp [isS]
    · rintro H2 ⟨s2, hDk⟩
      rw [List.take_length] at hDk
      exact q _ _ (s1.trans s2) (s1.free hD) hDk
end
end K13

namespace K13
open PySem PySem.Spec PyProof.Rows L2 So LamX
section
variable {P : Program} {w : World} {K : PySem.W.Frag} {mg : Str → Option Value} {base : Heap}
theorem ok_ticks {f : Addr} {fd : FuncData} (F : Fun K "_law_ticks" "_law_ticks" sTicks f fd) (mi : mg "isinstance" = none) (mt : mg "int" = none) (mb : mg "bool" = none) : FnOk P w K mg base CX0 1 f fd ["_law_row"] (spNamed isI) := by
  refine F.ok scTicks (fun vs H Q E h => ?_) (fun cdv A outer s H vs Q E hr h => ?_)
  · obtain ⟨_, _, _, rfl, _⟩ := h
    rfl
  · obtain ⟨r, kind, xs, rfl, hx, hl, hf, q⟩ := h
    refine ⟨_, pss_one (ps_ret (pe_lc (own := [("_law_part", 1)]) (g := gName 1) rfl scTicks.nd (pi_tup (pe_slice sl_tup (pv 0) (po_some pe_int) po_none)) (blkOk_by (N := ["_law_row", "_law_part"]) (sc := defScope sTicks) (by decide +kernel))
          (fun _ _ _ _ _ => pg_name (i := 1) scTicks.nd rfl (Or.inl rfl)) (fun _ _ _ _ _ => pts_one (PW.pt (pw_and (pt_val (pe_callB (isiK (K := K) rfl) (by rfl) mi (by decide +kernel) (pa_cons (pv 1) (pa_cons (pe_bltn (v := .ty "int") (by rfl) mt (by decide +kernel) rfl) pa_nil)))) (pw_and1 (pt_not (pt_val (pe_callB (isiK (K := K) rfl) (by rfl) mi (by decide +kernel) (pa_cons (pv 1) (pa_cons (pe_bltn (v := .ty "bool") (by rfl) mb (by decide +kernel) rfl) pa_nil)))))))))
          (fun _ _ _ _ _ => pv 1))), ?_⟩
    refine ⟨_, rfl, _, rfl, r, V.str kind :: xs, rfl, SqT.of hx, cut1_not _ _, fun tp htp => ?_⟩
    rw [cut1]
    have s1 := same_upd0 (o := .tup xs) htp
    have ht : (upd H tp (.tup xs)) tp = some (.tup xs) := upd_same
    revert s1 ht
    generalize upd H tp (.tup xs) = H1
    intro s1 ht
    refine ⟨tp, rfl, ⟨_, SqT.of ht⟩, fun D hD => ?_⟩
    have hlen : ∀ k, ((xs.take k).filter isI).length < sizeLine := fun k => by
      have h1 := List.length_filter_le isI (xs.take k)
      have h2 : (xs.take k).length ≤ xs.length := List.length_take_le' _ _
      have := sizeLine_eq
      omega
    refine lc_it walk_tup (fun k H' => Same H1 H' ∧ H' D = some (.lst ((xs.take k).filter isI))) ⟨Same.over (Same.refl H1) hD, upd_same⟩ (fun _ _ _ y => SqT.of (y.1 _ _ ht)) ?_ ?_
    · rintro k x H2 H3 hk ⟨s2, hDk⟩ ⟨rfl, hxk⟩
      have et : xs.take (k + 1) = xs.take k ++ [x] := by rw [List.take_add_one, hxk]; rfl
      rw [et, List.filter_append]
      have hfx := hf x (List.mem_of_getElem? hxk)
      cases hfx with
      | @nam z hz =>
        refine ⟨rfl, ?_⟩
        refine ⟨_, rfl, _, _, _, _, false, rfl, .ty "int", (Gv.str z (Nat.le_trans (name_len hz) (by decide))).ty, kit_ty (by decide +kernel), _, rfl, iteF (iteF ⟨s2, ?_⟩)⟩
        rw [hDk]
        simp [isI]
      | @mom i hi =>
        refine ⟨rfl, ?_⟩
        refine ⟨_, rfl, _, _, _, _, true, rfl, .ty "int", (Gv.int i).ty, kit_int_int, _, rfl, iteT ?_⟩
        refine ⟨_, rfl, _, _, _, _, false, rfl, .ty "bool", .base (.int i), kit_int_bool, _, rfl, iteT ⟨_, rfl, _, hDk, hlen k, Same.over s2 hD, ?_⟩⟩
        exact upd_same
      | @tru b =>
        refine ⟨rfl, ?_⟩
        refine ⟨_, rfl, _, _, _, _, true, rfl, .ty "int", (Gv.bl b).ty, kit_ty (by decide +kernel), _, rfl, iteT ?_⟩
        refine ⟨_, rfl, _, _, _, _, true, rfl, .ty "bool", .base (.bl b), kit_bool_bool, _, rfl, iteF ⟨s2, ?_⟩⟩
        rw [hDk]
        simp [isI]
    · rintro H2 ⟨s2, hDk⟩
      rw [List.take_length] at hDk
      exact q _ _ (s1.trans s2) (s1.free hD) hDk
end
end K13

namespace K13
open PySem PySem.Spec PyProof.Rows L2 So LamX
abbrev sToldAs : Stmt := inClass (topS 32) 5
theorem scToldAs : FnScope ["self", "forms", "value", "form"] ["self", "forms"] (defScope sToldAs) := ⟨rfl, rfl, rfl, by decide +kernel, rfl, by decide +kernel, by decide +kernel⟩
/-- the arguments of these forms -/
def pickF (fs : List Str) (l : List (V × Str)) : List V := (l.filter fun p => fs.contains p.2).map Prod.fst
section
variable {P : Program} {w : World} {K : PySem.W.Frag} {mg : Str → Option Value} {base : Heap}
theorem inK {X : Cx} {K : PySem.W.Frag} (h : X.K = K) : OpR X (compareOp .In) (rIn K false) := h ▸ op_in_seq
def spToldAs (Cf : Str → Addr) : Sp := fun vs H Q _ => ∃ (a ft : Addr) (kind : Str) (xs : List V) (fs : List Str), vs = [.ref a, .ref ft] ∧ kind ∈ kinds ∧ xs.length = (formsOf kind).length ∧ RowAt Cf H a kind xs ∧ H ft = some (.tup (fs.map V.str)) ∧ xs.length ≤ 8 ∧
  ∀ (H' : Hp) (l : Addr), Same H H' → H l = none → H' l = some (.lst (pickF fs (xs.zip (formsOf kind)))) → Q (.ref l) H'
theorem ok_toldAs {Cf : Str → Addr} {CR f aF : Addr} {fd : FuncData} (F : Fun K "_told_as" "Row._told_as" sToldAs f fd) (RC : RowsC K mg Cf CR) (T : Forms K w mg aF) : FnOk P w K mg base CX0 1 f fd ["self", "forms"] (spToldAs Cf) := by
  refine F.ok scToldAs (fun vs H Q E h => ?_) (fun cdv A outer s H vs Q E hr h => ?_)
  · obtain ⟨_, _, _, _, _, rfl, _⟩ := h
    rfl
  · obtain ⟨a, ft, kind, xs, fs, rfl, hk, hl, hA, hfs, hx8, q⟩ := h
    obtain ⟨fa, hd, hft⟩ := T.tab kind hk
    refine ⟨_, pss_one (ps_ret (pe_lc (own := [("value", 2), ("form", 3)]) (g := gTup K 2 (gCons (gName 2) (gCons (gName 3) gNil))) rfl scToldAs.nd (RZ.pi_zipA (by rfl) T.zip (pa_cons (pe_fld (pv 0) rfl) (pa_cons (pe_ix ix_kdict (pe_glob (v := .ref aF) rfl T.mgF rfl) (pe_fld (pv 0) rfl) (fun _ _ => rfl)) pa_nil))) (blkOk_by (N := ["self", "forms", "value", "form"]) (sc := defScope sToldAs) (by decide +kernel))
          (fun _ _ _ _ _ => pg_tup rfl (pgs_cons (pg_name (i := 2) scToldAs.nd rfl (Or.inl rfl)) (pgs_cons (pg_name (i := 3) scToldAs.nd rfl (Or.inl rfl)) pgs_nil))) (fun _ _ _ _ _ => pts_one (pt_cmpR (inK (K := K) rfl) (pv 3) (pv 1) (by rfl)))
          (fun _ _ _ _ _ => pv 2))), ?_⟩
    obtain ⟨dx, flds, ha, ⟨tk, ⟨tp, tt, htp⟩, _⟩⟩ := id hA
    have cl := (RC.c kind hk).cl
    have no := (RC.c kind hk).no
    have n0 := no "_told" (by simp)
    have n1 := no "kind" (by simp)
    refine ⟨_, rfl, a, _, dx, _, _, rfl, ha, cl, n0, tt, ?_⟩
    generalize formsOf kind = fo at hl hft q
    refine ⟨_, rfl, a, _, dx, _, _, rfl, ha, cl, n1, tk, aF, kind, .ref fa, rfl, rfl, hd, tp, fa, xs, fo.map V.str, rfl, .inr ⟨SqT.of htp, hft _, fun D hD => ?_⟩⟩
    have h8 : ∀ i, (pickF fs ((xs.zip fo).take i)).length < sizeLine := fun i => by
      unfold pickF
      rw [List.length_map]
      have h1 := List.length_filter_le (fun p : V × Str => fs.contains p.2) ((xs.zip fo).take i)
      have h2 : ((xs.zip fo).take i).length ≤ (xs.zip fo).length := List.length_take_le' _ _
      have h3 : (xs.zip fo).length ≤ xs.length := by rw [List.length_zip]; omega
      have := sizeLine_eq
      omega
    refine lc_it (walk_zipT rfl) (fun i H' => Same H H' ∧ H' D = some (.lst (pickF fs ((xs.zip fo).take i)))) ⟨Same.over (Same.refl H) hD, upd_same⟩ (fun _ _ _ y => ⟨SqT.of (y.1 _ _ htp), hft _⟩) ?_ ?_
    · rintro i x H2 H3 hi ⟨s2, hDi⟩ ⟨T0, u, y, rfl, hT0, rfl, hu, hy⟩
      have s3 := s2.trans (same_upd0 (o := .tup [u, y]) hT0)
      have hD3 := (same_upd0 (o := .tup [u, y]) hT0) _ _ hDi
      replace hy : (fo.map V.str)[i]? = some y := hy
      rw [List.getElem?_map] at hy
      obtain ⟨fm, hfm, rfl⟩ : ∃ fm, fo[i]? = some fm ∧ y = .str fm := by
        cases e : fo[i]? with
        | none => rw [e] at hy; cases hy
        | some m => rw [e] at hy; exact ⟨m, rfl, (Option.some.inj hy).symm⟩
      replace hu : xs[i]? = some u := hu
      have hz : (xs.zip fo)[i]? = some (u, fm) := by
        rw [List.getElem?_zip_eq_some]
        exact ⟨hu, hfm⟩
      have et : (xs.zip fo).take (i + 1) = (xs.zip fo).take i ++ [(u, fm)] := by rw [List.take_add_one, hz]; rfl
      have ep : pickF fs ((xs.zip fo).take (i + 1)) = pickF fs ((xs.zip fo).take i) ++ (if fs.contains fm = true then [u] else []) := by
        rw [et]
        unfold pickF
        rw [List.filter_append, List.map_append]
        congr 1
        by_cases c : fs.contains fm = true
        · rw [if_pos c, List.filter_cons, if_pos c]; rfl
        · rw [if_neg c, List.filter_cons, if_neg c]; rfl
      rw [ep]
      refine ⟨T0, _, rfl, SqT.of upd_same, rfl, _, _, rfl, _, _, rfl, rfl, rfl, _, rfl, _, rfl, ft, _, rfl, .inr (SqT.of (s3 _ _ hfs)), rfl, flat_strs fs, ?_⟩
      rw [show (if false = true then !inV (V.str fm) (fs.map V.str) else inV (V.str fm) (fs.map V.str)) = fs.contains fm from inV_strs fm fs]
      refine ⟨_, rfl, ite2 (fun c => ?_) (fun c => ?_)⟩
      · refine ⟨_, rfl, _, hD3, h8 i, Same.over s3 hD, ?_⟩
        rw [if_pos c]
        exact upd_same
      · refine ⟨s3, ?_⟩
        rw [if_neg c, List.append_nil]
        exact hD3
    · rintro H2 ⟨s2, hDi⟩
      rw [List.take_of_length_le (by rw [List.length_zip, List.length_map]; exact Nat.le_refl _)] at hDi
      exact q _ _ s2 hD hDi
end
end K13

/-! sorted(set(list)), the list's members texts, or ints -/
namespace So
open PySem PySem.Spec PyProof.Rows L2
/-- keys of one kind, and what they are as values -/
structure KyT (P : Program) (w : World) (α : Type) [DecidableEq α] where
  knd : PySem.KeyKind P w α
  mkv : α → Tok → Value
  key : Value → α
  hk : ∀ k t, key (mkv k t) = k
  his : ∀ k t, knd.is k (mkv k t) = true
  iff : ∀ k k0 t, knd.is k (mkv k0 t) = true ↔ k0 = k
  hsc : ∀ k t, (mkv k t).scannable = true
def kyStr (P : Program) (w : World) : KyT P w Str where
  knd := PySem.strKind P w
  mkv := Value.str
  key := fun v => match v with | .str x _ => x | _ => Str.empty
  hk := fun _ _ => rfl
  his := fun k t => strKind_is P w k t
  iff := fun k k0 t => by
    show ((k0 == k) = true) ↔ k0 = k
    exact beq_iff_eq
  hsc := fun _ _ => rfl
section
variable {P : Program} {w : World} {α : Type} [DecidableEq α] (T : KyT P w α)
def GoodG (e : Int × Value) : Prop := ∃ k tk, e.2 = T.mkv k tk ∧ e.1 = T.knd.hash k
def keyG (e : Int × Value) : α := T.key e.2
/-- the set at a: S its members, n their number; its table rises and can be walked -/
def SetG (h : Heap) (a : Addr) (S : α → Bool) (n : Nat) : Prop :=
  ∃ o es ep t, h.get? a = some o ∧ o.ExactSet ∧ o.data = .set es ep t ∧ (∀ e ∈ es.toList, GoodG T e) ∧ (es.toList.map (keyG T)).Nodup ∧ (∀ k, S k = true ↔ k ∈ es.toList.map (keyG T)) ∧
    es.size < scanBound ∧ t.fits es.size = true ∧ es.size = n ∧ Ris t.place.toList ∧ (w.params.followText "set-order" = true ∨ t.led = true)
end
section
variable {P : Program} {w : World} {α : Type} [DecidableEq α] {T : KyT P w α} {h h' : Heap} {a : Addr} {S : α → Bool} {n : Nat}
theorem SetG.at (R : SetG T h a S n) (k : ∀ o, h.get? a = some o → h'.get? a = some o) : SetG T h' a S n := by
  obtain ⟨o, es, ep, t, ho, r⟩ := R
  exact ⟨o, es, ep, t, k o ho, r⟩
theorem SetG.congr {S' : α → Bool} (R : SetG T h a S n) (e : ∀ k, S' k = S k) : SetG T h a S' n := by
  have q : S' = S := funext e
  rw [q]; exact R
theorem goodG_elems {l : List (Int × Value)} (g : ∀ e ∈ l, GoodG T e) : ElemsOf T.knd l := fun e he => by
  obtain ⟨k, tk, h1, h2⟩ := g e he
  exact ⟨⟨k, by rw [h1]; exact T.his k tk, h2⟩, by rw [h1]; exact T.hsc k tk⟩
theorem goodG_is {e : Int × Value} (g : GoodG T e) (k : α) : T.knd.is k e.2 = true ↔ keyG T e = k := by
  obtain ⟨k0, tk, h1, _⟩ := g
  unfold keyG
  rw [h1, T.hk]
  exact T.iff k k0 tk
theorem goodG_mem {l : List (Int × Value)} (g : ∀ e ∈ l, GoodG T e) (k : α) : k ∈ l.map (keyG T) ↔ ∃ e ∈ l, T.knd.is k e.2 = true := by
  rw [List.mem_map]
  constructor
  · rintro ⟨e, he, q⟩
    exact ⟨e, he, (goodG_is (g e he) k).2 q⟩
  · rintro ⟨e, he, q⟩
    exact ⟨e, he, (goodG_is (g e he) k).1 q⟩
theorem setG_fresh {h : Heap} : SetG T (h.push { cls := .type "set", dict := none, data := .set #[] 0 (.fresh 0 0 (!w.params.followText "set-order")) }) h.objs.size (fun _ => false) 0 :=
  ⟨_, #[], 0, _, Heap.get?_push_size _ rfl, ⟨rfl, rfl, rfl⟩, rfl, (fun e he => by simp at he), (by simp), (fun k => by simp), (by decide), (by rfl), rfl, List.Pairwise.nil, by
    show _ ∨ (!w.params.followText "set-order") = true
    cases w.params.followText "set-order"
    · exact .inr rfl
    · exact .inl rfl⟩
end
section
variable {P : Program} {w : World} {α : Type} [DecidableEq α] {T : KyT P w α} {A : Around} {E : Value → Shared → Prop} {s : Shared} {a : Addr} {S : α → Bool} {n : Nat}
theorem setG_add_tail {g : Bool → Sem Unit} (hg : ∀ (b : Bool) (s₁ : Shared) (Q' : Unit → Shared → Prop), Q' () s₁ → wpAny (model P w) A (g b) Q' E s₁)
    {o : Obj} {es : Array (Int × Value)} {ep : Nat} {t : SetTable} (ho : s.heap.get? a = some o) (hex : o.ExactSet) (hd : o.data = .set es ep t)
    {es1 : Array (Int × Value)} {t2 : SetTable} {S' : α → Bool} (g1 : ∀ e ∈ es1.toList, GoodG T e) (nd1 : (es1.toList.map (keyG T)).Nodup) (m1 : ∀ k, S' k = true ↔ k ∈ es1.toList.map (keyG T))
    (hb1 : es1.size < scanBound) (hf2 : t2.fits es1.size = true) (hr : Ris t2.place.toList) (hl : w.params.followText "set-order" = true ∨ t2.led = true) {wasDummy : Bool} {R : Option Bool → Shared → Prop}
    (hR : ∀ h', Heap.SameBut a s.heap h' → SetG T h' a S' es1.size → R (some true) { s with heap := h' }) :
    wpAny (model P w) A (do
        storeSet a es1 t2
        if (!wasDummy && t2.tooFull) = true then do
            g (relayAll t2 es1 (SetTable.grown es1.size)).2.2
            storeSet a (relayAll t2 es1 (SetTable.grown es1.size)).1 (relayAll t2 es1 (SetTable.grown es1.size)).2.1
            pure (some true)
          else pure (some true)) R E s := by
  refine wpAny_bind (wpAny_storeSet_of ho hd ?_ (fits_of_scanBound hb1))
  have ho1 := store_at (es' := es1) (t' := t2) ho hd
  have sb1 := Heap.SameBut.update s.heap a (Obj.putSet es1 t2)
  split
  · have pm := relayAll_perm t2 es1 (SetTable.grown es1.size)
    have hf3 := relayAll_fits t2 es1 (SetTable.grown es1.size)
    have hr3 := relayAll_ris t2 es1 (SetTable.grown es1.size)
    have hl3 := relayAll_led t2 es1 (SetTable.grown es1.size)
    generalize relayAll t2 es1 (SetTable.grown es1.size) = Z at pm hf3 hr3 hl3 ⊢
    obtain ⟨es2, t3, gave⟩ := Z
    dsimp only at pm hf3 hr3 hl3 ⊢
    have hsz : es2.size = es1.size := by rw [← Array.length_toList, pm.length_eq, Array.length_toList]
    have hb2 : es2.size < scanBound := by rw [hsz]; exact hb1
    refine wpAny_bind (hg _ _ _ ?_)
    refine wpAny_bind (wpAny_storeSet_of ho1 rfl ?_ (fits_of_scanBound hb2))
    have ho2 := store_at (es' := es2) (t' := t3) ho1 rfl
    refine wpAny_pure (hR _ (sb1.trans (Heap.SameBut.update _ a _)) ?_)
    exact ⟨_, es2, _, t3, ho2, hex, rfl, fun e he => g1 e (pm.mem_iff.mp he), (pm.map (keyG T)).nodup_iff.mpr nd1, fun k => (m1 k).trans (pm.map (keyG T)).mem_iff.symm, hb2, hf3, hsz, hr3,
      hl.imp id fun z => by rw [hl3]; exact z⟩
  · exact wpAny_pure (hR _ sb1 ⟨_, es1, _, t2, ho1, hex, rfl, g1, nd1, m1, hb1, hf2, rfl, hr, hl⟩)

theorem setG_add_hashed {k : α} {tk : Tok} {Q : Bool → Shared → Prop} (R : SetG T s.heap a S n) (room : n + 1 < scanBound)
    (hQ : ∀ h', Heap.SameBut a s.heap h' → SetG T h' a (fun j => S j || decide (j = k)) (if S k = true then n else n + 1) → Q (!S k) { s with heap := h' }) :
    wpAny (model P w) A (setAddHashed a (T.mkv k tk) (T.knd.hash k)) Q E s := by
  obtain ⟨o, es, ep, t, ho, hex, hd, g, nd, hm, hb, hf, hn, hr, hl⟩ := R
  have hkey : T.knd.is k (T.mkv k tk) = true := T.his k tk
  have hsc : (T.mkv k tk).scannable = true := T.hsc k tk
  have hel : ElemsOf T.knd es.toList := goodG_elems g
  unfold setAddHashed setAddHashedIn
  refine wpAny_holding (wpAny_bind (wpAny_setState_of ho hd hf ?_))
  dsimp only
  rw [byScan_of hsc hb hel]
  simp only [↓reduceIte]
  unfold setAddByScan
  refine wpAny_bind ?_
  refine wpAny_bind (wpAny_rule ?_)
  refine wpAny_bind (wpAny_setScan_of hkey ho hd hf hel ?_)
  cases hfi : List.findIdx? (fun e => T.knd.is k e.2) es.toList with
  | some j =>
    dsimp only
    obtain ⟨hj, pj, _⟩ := List.findIdx?_eq_some_iff_getElem.mp hfi
    have hSk : S k = true := (hm k).2 ((goodG_mem g k).2 ⟨es.toList[j], List.getElem_mem hj, pj⟩)
    refine wpAny_pure (wpAny_pure ?_)
    have q := hQ s.heap (Heap.SameBut.refl a s.heap) ⟨o, es, ep, t, ho, hex, hd, g, nd, fun i => by
      rw [Bool.or_eq_true, decide_eq_true_eq, ← hm i]
      exact ⟨fun z => z.elim id (fun e => e ▸ hSk), .inl⟩, hb, hf, by rw [if_pos hSk]; exact hn, hr, hl⟩
    rw [hSk] at q
    exact q
  | none =>
    dsimp only
    have hnk : k ∉ es.toList.map (keyG T) := fun z => by
      obtain ⟨e, he, q⟩ := (goodG_mem g k).1 z
      have c := List.findIdx?_eq_none_iff.mp hfi e he
      rw [q] at c
      cases c
    have hSk : S k = false := by
      cases q : S k with
      | false => rfl
      | true => exact absurd ((hm k).1 q) hnk
    have hgw : ∀ (b : Bool) {s₁ : Shared} {Q' : Unit → Shared → Prop}, Q' () s₁ → wpAny (model P w) A (match b with | true => rule "set.scan.the-table-gave-way" | false => pure ()) Q' E s₁ :=
      fun b s₁ Q' q => by cases b <;> first | exact wpAny_pure q | exact wpAny_rule q
    have pm := layNew_perm t es (T.knd.hash k) (T.mkv k tk)
    have hf1 := layNew_fits t es (T.knd.hash k) (T.mkv k tk)
    have hr1 := layNew_ris t es (T.knd.hash k) (T.mkv k tk) hr
    have hl1 := layNew_led t es (T.knd.hash k) (T.mkv k tk)
    generalize layNew t es (T.knd.hash k) (T.mkv k tk) = Z at pm hf1 hr1 hl1 ⊢
    obtain ⟨es1, t1, wasDummy, gave⟩ := Z
    dsimp only at pm hf1 hr1 hl1 ⊢
    rw [Array.toList_push] at pm
    have pc : es1.toList.Perm ((T.knd.hash k, T.mkv k tk) :: es.toList) := pm.trans (List.perm_append_singleton _ _)
    have pk : (es1.toList.map (keyG T)).Perm (k :: es.toList.map (keyG T)) := by
      have q := pc.map (keyG T)
      rw [List.map_cons] at q
      have e : keyG T (T.knd.hash k, T.mkv k tk) = k := T.hk k tk
      rw [e] at q
      exact q
    have g1 : ∀ e ∈ es1.toList, GoodG T e := fun e he => by
      rcases List.mem_cons.mp (pc.mem_iff.mp he) with z | z
      · rw [z]; exact ⟨k, tk, rfl, rfl⟩
      · exact g e z
    have nd1 : (es1.toList.map (keyG T)).Nodup := pk.nodup_iff.mpr (List.nodup_cons.mpr ⟨hnk, nd⟩)
    have m1 : ∀ i, (S i || decide (i = k)) = true ↔ i ∈ es1.toList.map (keyG T) := fun i => by
      rw [Bool.or_eq_true, decide_eq_true_eq, hm i, pk.mem_iff, List.mem_cons]
      exact Or.comm
    have hsz : es1.size = n + 1 := by rw [← Array.length_toList, pc.length_eq, List.length_cons, Array.length_toList, hn]
    have hb1 : es1.size < scanBound := by rw [hsz]; exact room
    have hled : w.params.followText "set-order" = true ∨ t1.led = true := hl.imp id fun z => by rw [hl1]; exact z
    have fin : ∀ h', Heap.SameBut a s.heap h' → SetG T h' a (fun j => S j || decide (j = k)) es1.size → Q true { s with heap := h' } := fun h' sb r => by
      have q := hQ h' sb
      rw [hSk] at q
      rw [hsz] at r
      exact q r
    refine wpAny_bind (hgw _ ?_)
    split
    · refine wpAny_bind ?_
      rw [hashByValue_scannable 8 hsc]
      refine wpAny_pure ?_
      refine setG_add_tail ?_ ho hex hd g1 nd1 m1 hb1 ?_ ?_ ?_ ?_
      · intro b s₁ Q' q; cases b <;> first | exact wpAny_pure q | exact wpAny_rule q
      · first | (split <;> first | exact hf1 | exact SetTable.fits_plain_off hf1) | exact hf1
      · first | (split <;> exact hr1) | exact hr1
      · first | (split <;> exact hled) | exact hled
      · intro h' sb r; dsimp only; exact wpAny_pure (fin h' sb r)
    · refine wpAny_bind (wpAny_pure ?_)
      simp only [↓reduceIte]
      refine setG_add_tail ?_ ho hex hd g1 nd1 m1 hb1 hf1 hr1 hled ?_
      · intro b s₁ Q' q; cases b <;> first | exact wpAny_pure q | exact wpAny_rule q
      · intro h' sb r; dsimp only; exact wpAny_pure (fin h' sb r)
end
end So

namespace So
open PySem PySem.Spec PyProof.Rows L2
section
variable {P : Program} {w : World} {α : Type} [DecidableEq α] {T : KyT P w α} {A : Around} {E : Value → Shared → Prop} {s : Shared}
theorem code_set_led1 (a : Value) {Q₁ : Value → Shared → Prop}
    (h : Q₁ (.ref s.heap.objs.size) { s with heap := s.heap.push { cls := .type "set", dict := none, data := .set #[] 0 (.fresh 0 0 (!w.params.followText "set-order")) } }) :
    codeAny (model P w) A (.call (.builtin "set.__new__") ⟨[.type "set", a], []⟩) (wants Q₁ E) s := by
  refine codeAny_of_tree ?_
  show wpAny _ A.in1 (do checkBuiltinCall "set.__new__" ⟨[.type "set", a], []⟩; again (.builtin "set.__new__" ⟨[.type "set", a], []⟩)) _ _ s
  refine wpAny_bind (wpAny_of_eq (F.newCall_set_1 a) (wpAny_pure ⟨plainId_quiet F.plain_set_new _, codeAny_builtin F.entry_set_new ?_⟩))
  rw [Around.under_plainId F.plain_set_new _]
  unfold Builtin.«set.__new__» Builtin.Frozenset.newClass
  have hsub := sub_set_self
  obtain ⟨hp, g, d, tk, os⟩ := s
  dsimp only
  wp_walk
  refine wpAny_askSetting (wpAny_pure ?_)
  dsimp only
  simp only [newObj]
  refine wpAny_bind (wpAny_alloc (wpAny_pure ?_))
  exact wpAny_pure h
end
section
variable {prog : Program} {w : World} {α : Type} [DecidableEq α] {T : KyT prog w α} {A : Around} {R : Result → Shared → Prop} {I : Addr} {fp wr : List Addr} {G : Array GenState → Array GenState → Prop} {n : Nat} {P : Nat → Value → Prop} {St : Nat → Shared → Prop}
theorem loopG (W : WalksS prog w A.in1 I fp wr G n P St) (S : Addr) (hSf : S ∉ fp) (xs : List α) (hsz : xs.length = n) (hn1 : n + 1 < scanBound)
    (hval : ∀ i v, P i v → ∃ k t, xs[i]? = some k ∧ v = T.mkv k t) :
    ∀ (k i : Nat) (s : Shared), n - i = k → i ≤ n → St i s →
      (∃ m, m ≤ i ∧ SetG T s.heap S (fun k' => decide (k' ∈ xs.take i)) m) →
      (∀ s', Moved (S :: wr) G s s' → (∃ m, m ≤ n ∧ SetG T s'.heap S (fun k' => decide (k' ∈ xs)) m) → R (.ok (.ret .none)) s') →
      codeAny (model prog w) A (.builtin "set.update.loop" ⟨[.ref S, .ref I], []⟩) R s := by
  have hSw : S ∉ wr := fun h => hSf (W.sub _ h)
  have hsub : ∀ b ∈ wr, b ∈ S :: wr := fun b hb => List.mem_cons_of_mem _ hb
  intro k
  induction k with
  | zero =>
    intro i s hk hi hst hS hR
    have hin : i = n := by omega
    subst hin
    refine codeAny_builtin PyProof.Rows.F.entry_set_update_loop ?_
    rw [Around.under_plainId PyProof.Rows.F.plain_set_update_loop _]
    show wpAny _ A.in1 (pyNext (.ref I) >>= _) _ _ s
    refine wpAny_bind (W.done s _ _ hst fun s' hm => ?_)
    show wpAny _ A.in1 (ret Value.none) _ _ s'
    refine wpAny_pure (hR s' (hm.mono hsub) ?_)
    obtain ⟨m, hm1, R1⟩ := hS
    rw [← hsz, List.take_length] at R1
    exact ⟨m, hm1, R1.at fun o ho => hm.heap S _ hSw ho⟩
  | succ k ih =>
    intro i s hk hi hst hS hR
    have hlt : i < n := by omega
    refine codeAny_builtin PyProof.Rows.F.entry_set_update_loop ?_
    rw [Around.under_plainId PyProof.Rows.F.plain_set_update_loop _]
    show wpAny _ A.in1 (pyNext (.ref I) >>= _) _ _ s
    refine wpAny_bind (W.item i s _ _ hlt hst fun v s' hP hst' hm => ?_)
    obtain ⟨x, t, hx, rfl⟩ := hval i v hP
    obtain ⟨m, hm1, R1⟩ := hS
    have R2 : SetG T s'.heap S (fun k' => decide (k' ∈ xs.take i)) m := R1.at fun o ho => hm.heap S _ hSw ho
    show wpAny _ A.in1 (holding [T.mkv x t] (setAdd S (T.mkv x t)) >>= _) _ _ s'
    refine wpAny_bind (wpAny_holding ?_)
    unfold setAdd
    refine wpAny_holding ?_
    refine wpAny_bind (T.knd.pyHash (k := x) (T.his x t) ?_)
    refine setG_add_hashed (s := { s' with toks := s'.toks + 1 }) R2 (by omega) fun h' hsb R3 => ?_
    have et : xs.take (i + 1) = xs.take i ++ [x] := by rw [List.take_add_one, hx]; rfl
    have R4 : ∃ m', m' ≤ i + 1 ∧ SetG T h' S (fun k' => decide (k' ∈ xs.take (i + 1))) m' := by
      refine ⟨_, ?_, R3.congr fun k' => ?_⟩
      · split <;> omega
      · rw [et, Bool.eq_iff_iff, Bool.or_eq_true, decide_eq_true_eq, decide_eq_true_eq, decide_eq_true_eq, List.mem_append, List.mem_singleton]
    refine wpAny_pure ⟨plainId_quiet PyProof.Rows.F.plain_set_update_loop _, ih (i + 1) _ (by omega) hlt (W.frame _ s' _ _ hst' (Nat.le_succ _) fun b hb o e => ?_) R4 fun s'' hm'' hS'' => ?_⟩
    · rw [hsb.2 b (fun h : b = S => hSf (by rw [← h]; exact hb))]; exact e
    · refine hR s'' (Moved.trans W.gtrans ((hm.mono hsub).then_heap (Nat.le_succ _) fun b o hb e => ?_) hm'') hS''
      rw [hsb.2 b (fun h : b = S => hb (by rw [h]; exact List.mem_cons_self))]; exact e
end
section
variable {prog : Program} {w : World} {α : Type} [DecidableEq α] {T : KyT prog w α} {A : Around} {E : Value → Shared → Prop} {s : Shared}
set_option maxHeartbeats 8000000 in
theorem call_set_listG {l : Addr} {items : Array Value} {xs : List α} {Q : Value → Shared → Prop}
    (hh : A.handled = none) (hl : s.heap.IsList l items) (hsz : xs.length = items.size) (hval : ∀ (i : Nat) (v : Value), items[i]? = some v → ∃ k t, xs[i]? = some k ∧ v = T.mkv k t) (hn1 : xs.length + 1 < scanBound)
    (h : ∀ (h' : Heap) (tk m : Nat), m ≤ xs.length → SetG T h' s.heap.objs.size (fun k' => decide (k' ∈ xs)) m →
      (∀ b o, b < s.heap.objs.size → s.heap.get? b = some o → h'.get? b = some o) → Q (.ref s.heap.objs.size) { s with heap := h', toks := tk }) :
    wpAny (model prog w) A (call (.type "set") [.ref l]) Q E s := by
  obtain ⟨c, tl, hmro⟩ := PySem.F.called_set.mro
  have hmade := PySem.F.called_set.made
  have hsub := PySem.F.called_set.sub
  refine wpAny_call (codeAny_of_tree ?_)
  show wpAny _ _ (callAny (.type "set") _) _ _ _
  refine wpAny_pure ⟨Code.quiet_builtin _ (by decide +kernel), codeAny_builtin PySem.F.entry_type_call ?_⟩
  rw [Around.under_plain (weight_type_call_type "set" [.ref l] []) rfl]
  have h1 := PySem.F.called_set.notType
  have h2 := PySem.F.called_set.canCreate
  have hct := PySem.F.typeCall_set_1 (.ref l)
  repeat (any_goals (first | assumption | wp_step))

  refine codeAny_mono (code_set_led1 (.ref l) (E := E) (Q₁ := fun obj s₁ => obj = .ref s.heap.objs.size ∧ s₁ = { s with heap := s.heap.push { cls := .type "set", dict := none, data := .set #[] 0 (.fresh 0 0 (!w.params.followText "set-order")) } }) ⟨rfl, rfl⟩) fun r s₁ hr => ?_
  cases r with
  | error e => exact hr
  | ok fl =>
    cases fl with
    | ret obj =>
      obtain ⟨rfl, rfl⟩ := hr
      have R0 := setG_fresh (T := T) (h := s.heap)
      generalize (!w.params.followText "set-order") = led at R0 ⊢
      have hS : (s.heap.push { cls := .type "set", dict := none, data := .set #[] 0 (.fresh 0 0 led) }).get? s.heap.objs.size = some { cls := .type "set", dict := none, data := .set #[] 0 (.fresh 0 0 led) } := Heap.get?_push_size _ rfl
      have hT : Shared.TypeIs { s with heap := s.heap.push { cls := .type "set", dict := none, data := .set #[] 0 (.fresh 0 0 led) } } (.ref s.heap.objs.size) "set" := ⟨_, hS, rfl⟩
      have hli := PySem.F.called_set.init.lookup
      have hbi := PySem.F.called_set.init.bind (.ref s.heap.objs.size)
      repeat (any_goals (first | assumption | wp_step))

      refine codeAny_mono (codeAny_call_builtin (R := wants (fun r s₂ => r = .none ∧ ∃ h' tk m, s₂ = { s with heap := h', toks := tk } ∧ m ≤ xs.length ∧
          SetG T h' s.heap.objs.size (fun k' => decide (k' ∈ xs)) m ∧
          (∀ b o, b < s.heap.objs.size → s.heap.get? b = some o → h'.get? b = some o)) E) PySem.F.called_set.init.plain PySem.F.entry_set_init (check_set_init_1 hT ?_)) fun r₂ s₂ hr₂ => ?_
      · obtain ⟨ol, hol, hcl, nl, hdl⟩ := hl
        obtain ⟨ocls, odict, odata, oslots⟩ := ol
        simp only at hcl hdl
        subst hcl; subst hdl
        have hol' : (s.heap.push { cls := .type "set", dict := none, data := .set #[] 0 (.fresh 0 0 led) }).get? l = some { cls := .type "list", dict := odict, data := .seq items nl, slots := oslots } := Heap.get?_push_of_some _ hol
        have hsls := PySem.F.sub_list_set
        have hslf := PySem.F.sub_list_frozenset
        have hne : (Value.type "list" == Value.type "dict") = false := by decide
        have hl1 : (s.heap.push { cls := .type "set", dict := none, data := .set #[] 0 (.fresh 0 0 led) }).IsList l items := ⟨_, hol', rfl, nl, rfl⟩
        unfold Builtin.«set.__init__» noKeywords Builtin.Frozenset.updateFrom
        generalize hPI : pyIter = PI
        wp_walk
        subst hPI

        refine wpAny_pyIter_list hl1 ?_
        refine wpAny_bind (wpAny_runValue ?_)
        have hlS : l < s.heap.objs.size := Heap.lt_size hol
        have hh3 : A.in1.in1.in1.handled = none := by simp [hh]
        have hneI : l ≠ (s.heap.push { cls := .type "set", dict := none, data := .set #[] 0 (.fresh 0 0 led) }).objs.size := by
          rw [Heap.size_push]; exact Nat.ne_of_lt (Nat.lt_succ_of_lt hlS)
        have hSf : s.heap.objs.size ∉ [(s.heap.push { cls := .type "set", dict := none, data := .set #[] 0 (.fresh 0 0 led) }).objs.size, l] := by
          rw [Heap.size_push]; simp only [List.mem_cons, List.mem_singleton, List.not_mem_nil, or_false, not_or]
          exact ⟨Nat.ne_of_lt (Nat.lt_succ_self _), Nat.ne_of_gt hlS⟩
        refine loopG (T := T) ((Walks.list hh3 _ l hneI items).toS) s.heap.objs.size
          hSf xs hsz (by rw [← hsz]; exact hn1) hval (items.size - 0) 0 _ (by omega) (Nat.zero_le _)
          ⟨⟨_, Heap.get?_push_size _ rfl, rfl, rfl⟩, (hl1.push _)⟩ ?hS0 ?hR
        case hS0 =>
          exact ⟨0, Nat.le_refl _, (R0.at fun o ho => Heap.get?_push_of_some _ ho).congr fun k => by simp⟩
        case hR =>
          intro s' hm hS'
          obtain ⟨h', g', d', tk', os'⟩ := s'
          have eg : g' = s.gens := hm.gens
          have ed : d' = s.drawn := hm.drawn
          have eo : os' = s.os := hm.os
          subst eg; subst ed; subst eo
          show wpAny _ _ _ _ _ _
          refine wpAny_pure ?_
          show wpAny _ _ (ret Value.none) _ _ _
          obtain ⟨m, hm1, R1⟩ := hS'
          refine wpAny_pure ⟨rfl, h', tk', m, rfl, by rw [hsz]; exact hm1, R1, fun b o hb e => ?_⟩
          have hb1 : b ≠ s.heap.objs.size := Nat.ne_of_lt hb
          have hb2 : b ≠ (s.heap.push { cls := .type "set", dict := none, data := .set #[] 0 (.fresh 0 0 led) }).objs.size := by
            rw [Heap.size_push]; exact Nat.ne_of_lt (Nat.lt_succ_of_lt hb)
          exact hm.heap b o (by simp only [List.mem_cons, List.mem_singleton, List.not_mem_nil, or_false, not_or]; exact ⟨hb1, hb2⟩) (Heap.get?_push_of_some _ (Heap.get?_push_of_some _ e))

      · cases r₂ with
        | error e => exact hr₂
        | ok fl₂ =>
          cases fl₂ with
          | ret r =>
            obtain ⟨rfl, h', tk, m, rfl, hm1, hS', hk'⟩ := hr₂
            repeat (any_goals (first | assumption | wp_step))
            exact h _ _ _ hm1 hS' hk'
          | _ => exact hr₂.elim
    | _ => exact hr.elim
end
end So

namespace So
open PySem PySem.Spec PyProof.Rows L2
/-! ### there is one ascending list of the same texts -/
theorem risingS_pair : ∀ {l : List Str} {p : Str}, risingS p l = true → (p :: l).Pairwise (fun a b => a.cps.toList ≤ b.cps.toList)
  | [], p, _ => List.pairwise_singleton _ _
  | x :: r, p, h => by
    have h : (!ltCps x.cps.toList p.cps.toList && risingS x r) = true := h
    rw [Bool.and_eq_true, Bool.not_eq_true', ltCps_eq, decide_eq_false_iff_not] at h
    have ih := risingS_pair h.2
    have h1 : p.cps.toList ≤ x.cps.toList := List.not_lt.mp h.1
    refine List.pairwise_cons.mpr ⟨fun y hy => ?_, ih⟩
    rcases List.mem_cons.mp hy with e | e
    · rw [e]; exact h1
    · exact List.le_trans h1 ((List.pairwise_cons.mp ih).1 y e)
theorem sortedS_pair {l : List Str} (h : sortedS l = true) : l.Pairwise (fun a b => a.cps.toList ≤ b.cps.toList) := by
  cases l with
  | nil => exact List.Pairwise.nil
  | cons x r => exact risingS_pair h
theorem str_of_cps {a b : Str} (h : a.cps.toList = b.cps.toList) : a = b := by
  cases a
  cases b
  simp only [Str.mk.injEq]
  exact Array.toList_inj.mp h
theorem sortedS_one {a b : List Str} (ha : sortedS a = true) (hb : sortedS b = true) (na : a.Nodup) (nb : b.Nodup) (h : ∀ k, k ∈ a ↔ k ∈ b) : a = b := by
  have p : a.Perm b := (List.perm_ext_iff_of_nodup na nb).mpr h
  exact p.eq_of_pairwise (le := fun a b : Str => a.cps.toList ≤ b.cps.toList) (fun x y _ _ h1 h2 => str_of_cps (List.le_antisymm h1 h2)) (sortedS_pair ha) (sortedS_pair hb)
theorem ints_one {a b : List Int} (ha : a.Pairwise (· < ·)) (hb : b.Pairwise (· < ·)) (h : ∀ k, k ∈ a ↔ k ∈ b) : a = b := by
  have nd : ∀ {l : List Int}, l.Pairwise (· < ·) → l.Nodup := fun h => h.imp fun h e => by omega
  have p : a.Perm b := (List.perm_ext_iff_of_nodup (nd ha) (nd hb)).mpr h
  exact p.eq_of_pairwise (le := fun a b : Int => a < b) (fun x y _ _ h1 h2 => by omega) ha hb
section
variable {P : Program} {w : World} {A : Around} {E : Value → Shared → Prop} {s : Shared} {a : Addr}
theorem strs_of (P : Program) (w : World) : ∀ (l : List Value), (∀ v ∈ l, ∃ k tk, v = Value.str k tk) → StrsAre l (l.map (kyStr P w).key)
  | [], _ => .nil
  | v :: l, h => by
    obtain ⟨k, tk, rfl⟩ := h v List.mem_cons_self
    exact .cons k tk (strs_of P w l fun u hu => h u (List.mem_cons_of_mem _ hu))
theorem list_sort_treeSt {a : Addr} {vs : List Value} {ss : List Str} {n : Nat} {Q : Fin → Shared → Prop} (ho : s.heap.get? a = some (seqObj "list" vs.toArray n))
    (hS : StrsAre vs ss) (hL : vs.length ≤ sizeLine)
    (h : ∀ (out : Array Value) (ss' : List Str), StrsAre out.toList ss' → ss'.Perm ss → sortedS ss' = true → Q (.done (.ret .none)) { s with heap := sortedHeap s.heap a vs out }) :
    wpAny (model P w) A (Builtin.«list.sort» ⟨[.ref a], []⟩) Q E s := by
  refine list_sort_treeKAny strKind_oneLt ho hS.keysOf (fun v₁ v₂ rest e => keyKind_strs (by rw [← e]; exact hS)) hL fun st' hp hs => ?_
  obtain ⟨ss', h1, h2, h3⟩ := sorted_out_str hS hp hs
  exact h _ ss' h1 h2 h3
theorem sorted_setS {S : Str → Bool} {n : Nat} {Q : Value → Shared → Prop} (R : SetG (kyStr P w) s.heap a S n) (hh : A.handled = none)
    (hQ : ∀ s' p (out : Array Value) (c : Nat) (ns : List Str), (∀ b o, s.heap.get? b = some o → s'.heap.get? b = some o) → s'.gens = s.gens → s'.os = s.os → s.heap.objs.size ≤ p →
      s'.heap.get? p = some (seqObj "list" out c) → StrsAre out.toList ns → sortedS ns = true → ns.Nodup → (∀ k, k ∈ ns ↔ S k = true) → ns.length = n → Q (.ref p) s') :
    wpAny (model P w) A (call (.builtin "sorted") [.ref a]) Q E s := by
  obtain ⟨o, es, ep, t, ho, hex, hd, g, nd, hm, hb, hf, hn, hr, hl⟩ := R
  refine Calls.call_function_entry kind_sorted plain_sorted entry_sorted (args_sorted1 _) ?_
  unfold Builtin.«sorted»
  refine wpAny_bind (m := checkCount "sorted" 1 1 _) (wpAny_pure ?_)
  refine wpAny_bind (collect_set (A := A.in1) hh ⟨o, ho, hex.1, hd⟩ hf hb hr hl fun s1 vs k1 hz g1 o1 pm => ?_)
  have hvl : vs.length = n := by rw [pm.length_eq, List.length_map, Array.length_toList]; exact hn
  have hvz : vs.length ≤ sizeLine := by rw [hvl, ← hn]; exact fits_of_scanBound hb
  have hI : StrsAre vs (vs.map (kyStr P w).key) := strs_of P w vs fun v hv => by
    obtain ⟨e, he, q⟩ := List.mem_map.mp (pm.mem_iff.mp hv)
    obtain ⟨k, tk, h1, _⟩ := g e he
    exact ⟨k, tk, by rw [← q]; exact h1⟩
  have pk : (vs.map (kyStr P w).key).Perm (es.toList.map (keyG (kyStr P w))) := by
    have q := pm.map (kyStr P w).key
    rw [List.map_map] at q
    exact q
  refine wpAny_bind (wpAny_newList ?_ hvz)
  have hoL : (s1.heap.push (seqObj "list" vs.toArray 0)).get? s1.heap.objs.size = some (seqObj "list" vs.toArray 0) := Heap.get?_push_size _ rfl
  refine wpAny_bind (wpAny_holding (wpAny_call_entry slot_list_sort ⟨_, hoL, rfl⟩ entry_list_sort (list_sort_treeSt hoL hI hvz fun out ns' a1 a2 a3 => ⟨_, rfl, ?_⟩) (args_list_sort _)))
  obtain ⟨c, hc⟩ := sortedHeap_at (vs := vs) (out := out) hoL
  have pn : ns'.Perm (es.toList.map (keyG (kyStr P w))) := a2.trans pk
  refine wpAny_pure ⟨_, rfl, hQ _ s1.heap.objs.size out c ns' (fun b u e => ?_) g1 o1 hz hc a1 a3 (pn.nodup_iff.mpr nd) (fun k => by rw [pn.mem_iff, ← hm k]) ?_⟩
  · have q := k1 b u e
    have hlt := Heap.lt_size q
    show (sortedHeap (s1.heap.push (seqObj "list" vs.toArray 0)) s1.heap.objs.size vs out).get? b = some u
    rw [sortedHeap_old (Nat.ne_of_lt hlt) (by rw [size_push']; exact Nat.lt_succ_of_lt hlt)]
    exact Heap.get?_push_of_some _ q
  · rw [pn.length_eq, List.length_map, Array.length_toList]; exact hn
end
/-! ### the calls -/
section
variable {X : Cx}
/-- the set of texts at a -/
def SetS (P : Program) (w : World) (a : Addr) (S : Str → Bool) (n : Nat) : HO := .ext fun h => SetG (kyStr P w) h a S n
theorem setS_new {w : World} {P P' : Program} {H : Hp} {h : Heap} {a : Addr} {S : Str → Bool} {n : Nat} (R : SetG (kyStr P' w) h a S n) : ObjOk P w H h a (SetS P' w a S n) := by
  have ⟨o, _, _, _, ho, _⟩ := R
  exact ⟨R, ⟨o, ho⟩, fun h1 h2 p k => SetG.at p k⟩
theorem setS_get {pins : List (Addr × Obj)} {σ : L2.St} {H : Hp} {s : Shared} {a : Addr} {S : Str → Bool} {n : Nat} (I : Inv X pins σ H s) (ha : H a = some (SetS X.prog X.w a S n)) : SetG (kyStr X.prog X.w) s.heap a S n := (I.hok a _ ha).1
/-- set(list of texts) -/
def rSetS (K : PySem.W.Frag) (P : Program) (w : World) : List V → Hp → VK → Prop := fun xs H Q => ∃ (l : Addr) (ks : List Str), xs = [.ref l] ∧ SqL K H l (ks.map V.str) ∧ ks.length < 1000 ∧
  ∀ (p : Addr) (n : Nat), H p = none → n ≤ ks.length → Q (.ref p) (upd H p (SetS P w p (fun k => decide (k ∈ ks)) n))
theorem vals_at : ∀ {xs : List Str} {us : List Value}, Vals (xs.map V.str) us → ∀ (i : Nat) (v : Value), us[i]? = some v → ∃ k t, xs[i]? = some k ∧ v = Value.str k t
  | [], us, r, i, v, h => by
    cases r
    simp at h
  | x :: xs, us, r, i, v, h => by
    cases r with
    | cons r1 r =>
      obtain ⟨t, rfl⟩ := r1
      cases i with
      | zero =>
        simp at h
        exact ⟨x, t, rfl, h.symm⟩
      | succ i => exact vals_at r i v (by simpa using h)
theorem cr_setS (hc : X.calm = true) : CallR X (.type "set") (rSetS X.K X.prog X.w) := by
  intro pins s σ H xs us Q I r h
  obtain ⟨l, ks, rfl, hs, h1000, q⟩ := h
  obtain ⟨its, rv, hl, _⟩ := I.list hs
  rw [Vals.ref1 r]
  have hlen := rv.length
  rw [List.length_map] at hlen
  refine call_set_listG (T := kyStr X.prog X.w) (xs := ks) (I.ok.hd hc) hl.isList (by simpa using hlen) (fun i v hv => vals_at rv i v (by simpa using hv)) (by unfold scanBound; omega) fun h' tk m hm R k => ?_
  exact ⟨.ref _, upd H s.heap.objs.size (SetS X.prog X.w s.heap.objs.size (fun k => decide (k ∈ ks)) m), I.laid (t' := tk) (fun b u e => k b u (Heap.lt_size e) e) (Nat.le_refl _) (setS_new R), rfl, q _ _ (I.hok.fresh (Nat.le_refl _)) hm⟩
/-- sorted(set of texts) -/
def rSortSS (P : Program) (w : World) : List V → Hp → VK → Prop := fun xs H Q => ∃ (a : Addr) (S : Str → Bool) (n : Nat), xs = [.ref a] ∧ H a = some (SetS P w a S n) ∧ n < 1000 ∧
  ∀ (ns : List Str) (p : Addr), sortedS ns = true → ns.Nodup → (∀ k, k ∈ ns ↔ S k = true) → ns.length = n → H p = none → Q (.ref p) (upd H p (.lst (ns.map V.str)))
theorem cr_sortSS (hc : X.calm = true) : CallR X (.builtin "sorted") (rSortSS X.prog X.w) := by
  intro pins s σ H vs us Q I r h
  obtain ⟨a, S, n, rfl, ha, h64, q⟩ := h
  have R := setS_get I ha
  rw [Vals.ref1 r]
  refine sorted_setS R (I.ok.hd hc) fun s' p out c ns k g o hp hg hi hs hnd hm hl => ?_
  have hlen : (ns.map V.str).length ≤ sizeLine := by rw [List.length_map, hl, sizeLine_eq]; omega
  have hn : H p = none := I.hok.fresh hp
  have J : Inv X pins σ (upd H p (.lst (ns.map V.str))) { s with heap := s'.heap, gens := s'.gens, drawn := s'.drawn, toks := s'.toks } :=
    I.call (ch := []) (Un.laid k hp hn) (I.hok.laid k hp ⟨hlen, out.toList, c, vals_of_strs hi, hg⟩) (by rw [g]; exact I.bare) (fun _ z => nomatch z)
  have e : s' = { s with heap := s'.heap, gens := s'.gens, drawn := s'.drawn, toks := s'.toks } := by
    cases s'
    cases s
    cases o
    rfl
  rw [e]
  exact ⟨.ref p, _, J, rfl, q ns p hs hnd hm hl hn⟩
/-! ### ints -/
def kyInt (P : Program) (w : World) : KyT P w Int where
  knd := PySem.intKind P w
  mkv := Value.int
  key := fun v => match v with | .int k _ => k | _ => 0
  hk := fun _ _ => rfl
  his := fun k t => intKind_is P w k t
  iff := fun k k0 t => by
    show ((k0 == k) = true) ↔ k0 = k
    exact beq_iff_eq
  hsc := fun _ _ => rfl
theorem setR_of {P : Program} {w : World} {h : Heap} {a : Addr} {S : Int → Bool} {n : Nat} (R : SetG (kyInt P w) h a S n) : SetR w h a S n := by
  obtain ⟨o, es, ep, t, ho, hex, hd, g, nd, hm, r⟩ := R
  exact ⟨o, es, ep, t, ho, hex, hd, g, nd, hm, r⟩
/-- set(list of ints) -/
def rSetI2 (K : PySem.W.Frag) (w : World) : List V → Hp → VK → Prop := fun xs H Q => ∃ (l : Addr) (ks : List Int), xs = [.ref l] ∧ SqL K H l (ks.map V.int) ∧ ks.length < 1000 ∧
  ∀ (p : Addr) (n : Nat), H p = none → n ≤ ks.length → Q (.ref p) (upd H p (SetO w p (fun k => decide (k ∈ ks)) n))
theorem vals_atI2 : ∀ {xs : List Int} {us : List Value}, Vals (xs.map V.int) us → ∀ (i : Nat) (v : Value), us[i]? = some v → ∃ k t, xs[i]? = some k ∧ v = Value.int k t
  | [], us, r, i, v, h => by
    cases r
    simp at h
  | x :: xs, us, r, i, v, h => by
    cases r with
    | cons r1 r =>
      obtain ⟨t, rfl⟩ := r1
      cases i with
      | zero =>
        simp at h
        exact ⟨x, t, rfl, h.symm⟩
      | succ i => exact vals_atI2 r i v (by simpa using h)
theorem cr_setI2 (hc : X.calm = true) : CallR X (.type "set") (rSetI2 X.K X.w) := by
  intro pins s σ H xs us Q I r h
  obtain ⟨l, ks, rfl, hs, h1000, q⟩ := h
  obtain ⟨its, rv, hl, _⟩ := I.list hs
  rw [Vals.ref1 r]
  have hlen := rv.length
  rw [List.length_map] at hlen
  refine call_set_listG (T := kyInt X.prog X.w) (xs := ks) (I.ok.hd hc) hl.isList (by simpa using hlen) (fun i v hv => vals_atI2 rv i v (by simpa using hv)) (by unfold scanBound; omega) fun h' tk m hm R k => ?_
  exact ⟨.ref _, upd H s.heap.objs.size (SetO X.w s.heap.objs.size (fun k => decide (k ∈ ks)) m), I.laid (t' := tk) (fun b u e => k b u (Heap.lt_size e) e) (Nat.le_refl _) (setO_new (setR_of R)), rfl, q _ _ (I.hok.fresh (Nat.le_refl _)) hm⟩
end
end So

namespace K13
open PySem PySem.Spec PyProof.Rows L2 So LamX
abbrev sBegins : Stmt := inClass (topS 32) 2
abbrev sTools : Stmt := inClass (topS 32) 3
abbrev sMoments : Stmt := inClass (topS 32) 4
theorem scBegins : FnScope ["self"] ["self"] (defScope sBegins) := ⟨rfl, rfl, rfl, by decide +kernel, rfl, by decide +kernel, by decide +kernel⟩
theorem scTools : FnScope ["self"] ["self"] (defScope sTools) := ⟨rfl, rfl, rfl, by decide +kernel, rfl, by decide +kernel, by decide +kernel⟩
theorem scMoments : FnScope ["self"] ["self"] (defScope sMoments) := ⟨rfl, rfl, rfl, by decide +kernel, rfl, by decide +kernel, by decide +kernel⟩
def strsOf : List V → List Str
  | [] => []
  | .str z :: r => z :: strsOf r
  | _ :: r => strsOf r
def intsOf : List V → List Int
  | [] => []
  | .int z :: r => z :: intsOf r
  | _ :: r => intsOf r
theorem strs_filter : ∀ xs : List V, xs.filter isS = (strsOf xs).map V.str
  | [] => rfl
  | v :: r => by
    rw [List.filter_cons, strs_filter r]
    cases v <;> rfl
theorem ints_filter : ∀ xs : List V, xs.filter isI = (intsOf xs).map V.int
  | [] => rfl
  | v :: r => by
    rw [List.filter_cons, ints_filter r]
    cases v <;> rfl
theorem strs_len (xs : List V) : (strsOf xs).length ≤ xs.length := by
  have h := congrArg List.length (strs_filter xs)
  rw [List.length_map] at h
  rw [← h]
  exact List.length_filter_le _ _
theorem ints_len (xs : List V) : (intsOf xs).length ≤ xs.length := by
  have h := congrArg List.length (ints_filter xs)
  rw [List.length_map] at h
  rw [← h]
  exact List.length_filter_le _ _
theorem pick_yes {fs : List Str} {v : V} {f : Str} {l : List (V × Str)} (h : fs.contains f = true) : pickF fs ((v, f) :: l) = v :: pickF fs l := by
  unfold pickF
  rw [List.filter_cons, if_pos (show fs.contains (v, f).2 = true from h)]
  rfl
theorem pick_no {fs : List Str} {v : V} {f : Str} {l : List (V × Str)} (h : fs.contains f = false) : pickF fs ((v, f) :: l) = pickF fs l := by
  unfold pickF
  rw [List.filter_cons, if_neg (fun z => by rw [show fs.contains (v, f).2 = false from h] at z; cases z)]
theorem pick_name {kind : Str} (hk : kind ∈ kinds) {xs : List V} (h : FlatRow kind xs) : pickF ["name"] (xs.zip (formsOf kind)) = (strsOf xs).map V.str ∧ pickF ["moment", "beginning"] (xs.zip (formsOf kind)) = (intsOf xs).map V.int := by
  obtain ⟨hl, h2⟩ := h
  have hf := forms_in kind hk
  rw [← strs_filter, ← ints_filter]
  generalize formsOf kind = fo at hl h2 hf
  induction xs generalizing fo with
  | nil => exact ⟨rfl, rfl⟩
  | cons v r ih =>
    cases fo with
    | nil => cases hl
    | cons f fr =>
      obtain ⟨i1, i2⟩ := ih fr (by simpa using hl) (fun q hq => h2 q (by rw [List.zip_cons_cons]; exact List.mem_cons_of_mem _ hq)) (fun x hx => hf x (List.mem_cons_of_mem _ hx))
      have o := (h2 (v, f) (by rw [List.zip_cons_cons]; exact List.mem_cons_self)).1
      have hff := hf f List.mem_cons_self
      clear h2 hf hl ih
      rw [List.zip_cons_cons]
      simp only [List.mem_cons, List.not_mem_nil, or_false] at hff
      rcases hff with e | e | e | e <;> subst e
      · rw [okF_n] at o
        cases v with
        | str z => exact ⟨by rw [pick_yes (by decide +kernel), i1]; rfl, by rw [pick_no (by decide +kernel), i2]; rfl⟩
        | _ => cases o
      · rw [okF_m] at o
        cases v with
        | int z => exact ⟨by rw [pick_no (by decide +kernel), i1]; rfl, by rw [pick_yes (by decide +kernel), i2]; rfl⟩
        | _ => cases o
      · rw [okF_b] at o
        cases v with
        | int z => exact ⟨by rw [pick_no (by decide +kernel), i1]; rfl, by rw [pick_yes (by decide +kernel), i2]; rfl⟩
        | _ => cases o
      · rw [okF_t] at o
        cases v with
        | bl z => exact ⟨by rw [pick_no (by decide +kernel), i1]; rfl, by rw [pick_no (by decide +kernel), i2]; rfl⟩
        | _ => cases o
section
variable {P : Program} {w : World} {K : PySem.W.Frag} {mg : Str → Option Value} {base : Heap}
def spTools (Cf : Str → Addr) : Sp := fun vs H Q _ => ∃ (a : Addr) (kind : Str) (xs : List V), vs = [.ref a] ∧ kind ∈ kinds ∧ FlatRow kind xs ∧ RowAt Cf H a kind xs ∧
  ∀ (H' : Hp) (t : Addr) (ns : List Str), Same H H' → H' t = some (.tup (ns.map V.str)) → sortedS ns = true → ns.Nodup → (∀ k, k ∈ ns ↔ k ∈ strsOf xs) → ns.length ≤ 4 → Q (.ref t) H'
def spMoments (Cf : Str → Addr) : Sp := fun vs H Q _ => ∃ (a : Addr) (kind : Str) (xs : List V), vs = [.ref a] ∧ kind ∈ kinds ∧ FlatRow kind xs ∧ RowAt Cf H a kind xs ∧
  ∀ (H' : Hp) (t : Addr) (ns : List Int), Same H H' → H' t = some (.tup (ns.map V.int)) → ns.Pairwise (· < ·) → (∀ k, k ∈ ns ↔ k ∈ intsOf xs) → ns.length ≤ 4 → Q (.ref t) H'
structure SetE (mg : Str → Option Value) : Prop where
  tup : mg "tuple" = none
  srt : mg "sorted" = none
  set : mg "set" = none
theorem ok_tools {Cf : Str → Addr} {CR f fT : Addr} {fd fdT : FuncData} (F : Fun K "tools" "Row.tools" sTools f fd) (W : SetE mg) (T : RowsC K mg Cf CR) (hm : ∀ kind ∈ kinds, Meth K (Cf kind) "_told_as" fT) (bT : Binds K fdT ["self", "forms"] [])
    (GT : FnOk P w K mg base CX0 1 fT fdT ["self", "forms"] (spToldAs Cf)) : FnOk P w K mg base CX0 2 f fd ["self"] (spTools Cf) := by
  refine F.ok scTools (fun vs H Q E h => ?_) (fun cdv A outer s H vs Q E hr h => ?_)
  · obtain ⟨_, _, _, rfl, _⟩ := h
    rfl
  · obtain ⟨a, kind, xs, rfl, hk, hf, hA, q⟩ := h
    have hr1 : Room 1 _ := hr.mono (by decide)
    refine ⟨_, pss_one (ps_ret (pe_callTy call_tuple_of (by rfl) W.tup (by decide +kernel) (pa_cons (pe_callB (cr_sortSS rfl) (by rfl) W.srt (by decide +kernel) (pa_cons (pe_callTy (cr_setS rfl) (by rfl) W.set (by decide +kernel)
      (pa_cons (pe_ex (p := fun kind => kind ∈ kinds) fun kind hk => pe_meth (pv 0) (T.c kind hk).cl (hm kind hk) GT hr1 bT .nil pass0 (pa_cons (pe_tup (pa_cons pe_str pa_nil)) pa_nil)) pa_nil)) pa_nil)) pa_nil))), ?_⟩
    obtain ⟨dx, fs, ha, tl⟩ := id hA
    have hl4 : xs.length ≤ 4 := by rw [hf.1]; exact forms_len kind hk
    have hs4 := strs_len xs
    refine ⟨kind, hk, _, rfl, a, dx, fs, rfl, ha, tl.2.2.2 "_told_as" (by simp [methR]), by show 1 ≤ sizeLine; decide, fun ft hft => ?_⟩
    have s1 := same_upd0 (o := .tup [V.str "name"]) hft
    refine ⟨a, ft, kind, xs, ["name"], rfl, hk, hf.1, hA.same s1, upd_same, by omega, fun H2 l s2 nl hl => ?_⟩
    rw [(pick_name hk hf).1] at hl
    refine ⟨l, strsOf xs, rfl, SqL.of hl, by omega, fun p n hp hn => ⟨p, _, n, rfl, upd_same, by omega, fun ns p2 h1 h2 h3 h4 hp2 => ?_⟩⟩
    have s3 := s1.trans (s2.trans ((same_upd0 hp).trans (same_upd0 (o := .lst (ns.map V.str)) hp2)))
    exact ⟨p2, _, rfl, .inl ⟨SqL.of upd_same, fun t ht => q _ t ns (s3.trans (same_upd0 ht)) upd_same h1 h2 (fun k => by rw [h3 k, decide_eq_true_eq]) (by omega)⟩⟩
theorem ok_moments {Cf : Str → Addr} {CR f fT : Addr} {fd fdT : FuncData} (F : Fun K "moments" "Row.moments" sMoments f fd) (W : SetE mg) (T : RowsC K mg Cf CR) (hm : ∀ kind ∈ kinds, Meth K (Cf kind) "_told_as" fT) (bT : Binds K fdT ["self", "forms"] [])
    (GT : FnOk P w K mg base CX0 1 fT fdT ["self", "forms"] (spToldAs Cf)) : FnOk P w K mg base CX0 2 f fd ["self"] (spMoments Cf) := by
  refine F.ok scMoments (fun vs H Q E h => ?_) (fun cdv A outer s H vs Q E hr h => ?_)
  · obtain ⟨_, _, _, rfl, _⟩ := h
    rfl
  · obtain ⟨a, kind, xs, rfl, hk, hf, hA, q⟩ := h
    have hr1 : Room 1 _ := hr.mono (by decide)
    refine ⟨_, pss_one (ps_ret (pe_callTy call_tuple_of (by rfl) W.tup (by decide +kernel) (pa_cons (pe_callB (cr_sortedSet rfl) (by rfl) W.srt (by decide +kernel) (pa_cons (pe_callTy (cr_setI2 rfl) (by rfl) W.set (by decide +kernel)
      (pa_cons (pe_ex (p := fun kind => kind ∈ kinds) fun kind hk => pe_meth (pv 0) (T.c kind hk).cl (hm kind hk) GT hr1 bT .nil pass0 (pa_cons (pe_tup (pa_cons pe_str (pa_cons pe_str pa_nil))) pa_nil)) pa_nil)) pa_nil)) pa_nil))), ?_⟩
    obtain ⟨dx, fs, ha, tl⟩ := id hA
    have hl4 : xs.length ≤ 4 := by rw [hf.1]; exact forms_len kind hk
    have hs4 := ints_len xs
    refine ⟨kind, hk, _, rfl, a, dx, fs, rfl, ha, tl.2.2.2 "_told_as" (by simp [methR]), by show 2 ≤ sizeLine; decide, fun ft hft => ?_⟩
    have s1 := same_upd0 (o := .tup [V.str "moment", V.str "beginning"]) hft
    refine ⟨a, ft, kind, xs, ["moment", "beginning"], rfl, hk, hf.1, hA.same s1, upd_same, by omega, fun H2 l s2 nl hl => ?_⟩
    rw [(pick_name hk hf).2] at hl
    refine ⟨l, intsOf xs, rfl, SqL.of hl, by omega, fun p n hp hn => ⟨p, _, n, rfl, upd_same, by omega, fun ns p2 h1 h3 h4 hp2 => ?_⟩⟩
    have s3 := s1.trans (s2.trans ((same_upd0 hp).trans (same_upd0 (o := .lst (ns.map V.int)) hp2)))
    exact ⟨p2, _, rfl, .inl ⟨SqL.of upd_same, fun t ht => q _ t ns (s3.trans (same_upd0 ht)) upd_same h1 (fun k => by rw [h3 k, decide_eq_true_eq]) (by omega)⟩⟩
def begs : List Str := ["begun", "setby"]
def spBegins (Cf : Str → Addr) : Sp := fun vs H Q _ => ∃ (a : Addr) (kind : Str) (xs : List V), vs = [.ref a] ∧ kind ∈ kinds ∧ RowAt Cf H a kind xs ∧ Q (.bl (begs.contains kind)) H
theorem ok_begins {Cf : Str → Addr} {CR CBg f : Addr} {fd : FuncData} (F : Fun K "begins" "Row.begins" sBegins f fd) (mi : mg "isinstance" = none) (gB : mg "Beginning" = some (.ref CBg)) (T : RowsC K mg Cf CR)
    (hb : ∀ kind ∈ kinds, PySem.W.kitOne K (.ref (Cf kind)) (.ref CBg) = some (begs.contains kind)) : FnOk P w K mg base CX0 1 f fd ["self"] (spBegins Cf) := by
  refine F.ok scBegins (fun vs H Q E h => ?_) (fun cdv A outer s H vs Q E hr h => ?_)
  · obtain ⟨_, _, _, rfl, _⟩ := h
    rfl
  · obtain ⟨a, kind, xs, rfl, hk, hA, q⟩ := h
    refine ⟨_, pss_one (ps_ret (pe_callB call_isi (by rfl) mi (by decide +kernel) (pa_cons (pv 0) (pa_cons (pe_glob (v := .ref CBg) rfl gB rfl) pa_nil)))), ?_⟩
    obtain ⟨dx, fs, ha, tl⟩ := id hA
    exact ⟨_, rfl, _, _, _, _, _, rfl, .own CBg, .base (.ins ha (T.c kind hk).cl (T.ha kind hk) T.hn T.htk (T.hm kind hk)), hb kind hk, q⟩
end
end K13

namespace K13
open PySem PySem.Spec PyProof.Rows L2 So LamX
abbrev sCrew : Stmt := topS 56
theorem scCrew : FnScope ["_law_pen_here", "_law_stem", "_law_sign"] ["_law_pen_here"] (defScope sCrew) := ⟨rfl, rfl, rfl, by decide +kernel, rfl, by decide +kernel, by decide +kernel⟩
def stems : List Str := ["", "", "g", "gauge0"]
def cutN (d : Int) : Str := cutS ("zab" : Str) none (some (1 + d))
theorem crew_ok : ∀ st ∈ stems, ∀ c ∈ ("zab" : Str).cps.toList, isName (st ++ ⟨#[c]⟩) = true ∧ (st ++ (⟨#[c]⟩ : Str)).length ≤ 8 ∧ st.length + 1 ≤ 100 := by decide +kernel
theorem cut_ok : (∀ d ∈ ([0, 1, 2] : List Int), 0 < (cutN d).length ∧ (cutN d).length ≤ 3 ∧ ∀ c ∈ (cutN d).cps.toList, c ∈ ("zab" : Str).cps.toList) := by decide +kernel
section
variable {P : Program} {w : World} {K : PySem.W.Frag} {mg : Str → Option Value} {base : Heap}
def spCrew : Sp := fun vs H Q _ => ∃ (p l : Addr) (ns : List Int) (n : Nat) (g : Int), vs = [.ref p] ∧ Pen H p l ns n g ∧ n < 999000 ∧
  ∀ (zs : List Str) (cr : Addr) (n' : Nat) (g' : Int) (H' : Hp), 0 < zs.length → zs.length ≤ 3 → (∀ z ∈ zs, isName z = true) → n' ≤ n + 2 → Off p H H' → Pen H' p l ns n' g' → H' cr = some (.lst (zs.map V.str)) → cr ≠ p → Q (.ref cr) H'
theorem ok_crew {f fP fD : Addr} {fd fdP fdD : FuncData} (F : Fun K "_law_crew" "_law_crew" sCrew f fd) (FP : Fun K "_law_pick" "_law_pick" sPick fP fdP) (bP : Binds K fdP ["_law_pen_here", "_law_some"] []) (gP : mg "_law_pick" = some (.ref fP)) (GP : FnOk P w K mg base CX0 2 fP fdP ["_law_pen_here", "_law_some"] (spPick K))
    (FD : Fun K "_law_draw" "_law_draw" sDraw fD fdD) (bD : Binds K fdD ["_law_pen_here", "_law_many"] []) (gD : mg "_law_draw" = some (.ref fD)) (GD : FnOk P w K mg base CX0 1 fD fdD ["_law_pen_here", "_law_many"] spDraw) : FnOk P w K mg base CX0 3 f fd ["_law_pen_here"] spCrew := by
  refine F.ok scCrew (fun vs H Q E h => ?_) (fun cdv A outer s H vs Q E hr h => ?_)
  · obtain ⟨_, _, _, _, _, rfl, _⟩ := h
    rfl
  · obtain ⟨p, l, ns, n, g, rfl, hp, hn, q⟩ := h
    have hr1 : Room 1 _ := hr.mono (by decide)
    refine ⟨_, pss_cons (ps_set (i := 1) scCrew.nd rfl (.inr rfl) (pe_call GP hr (by rfl) gP FP.kp bP .nil pass0 (pa_cons (pv 0) (pa_cons (pe_lst (pa_cons pe_str (pa_cons pe_str (pa_cons pe_str (pa_cons pe_str pa_nil))))) pa_nil))))
      (pss_one (ps_ret (pe_lc (own := [("_law_sign", 2)]) (g := gName 2) (tt := tYes) rfl scCrew.nd (pi_str (pe_slice sl_str pe_str po_none (po_some (pe_op op_add pe_int (pe_call GD hr1 (by rfl) gD FD.kp bD .nil pass0 (pa_cons (pv 0) (pa_cons pe_int pa_nil))))))) (blkOk_by (N := ["_law_pen_here", "_law_stem", "_law_sign"]) (sc := defScope sCrew) (by decide +kernel))
          (fun _ _ _ _ _ => pg_name (i := 2) scCrew.nd rfl (Or.inl rfl)) (fun _ _ _ _ _ => pts_nil)
          (fun _ _ _ _ _ => pe_op op_add_str (pv 1) (pv 2))))), ?_⟩
    refine ⟨_, rfl, by show 4 ≤ sizeLine; decide, fun s1 h1 => ?_⟩
    have nsp := hp.ne h1
    refine ⟨p, l, ns, n, g, _, rfl, hp.new h1, by omega, .inl ⟨s1, _, rfl, nsp, upd_same, by show 0 < 4; decide, by show 4 ≤ 1000; decide, fun v n1 g1 H1 hv hn1 off1 pen1 => ?_⟩⟩
    obtain ⟨st, hst, rfl⟩ : ∃ st ∈ stems, v = .str st := by
      have : v ∈ stems.map V.str := hv
      obtain ⟨z, hz, e⟩ := List.mem_map.mp this
      exact ⟨z, hz, e.symm⟩
    have offA : Off p H H1 := Off.trans (offS (same_upd0 h1)) off1
    refine ⟨_, rfl, p, l, ns, n1, g1, 3, rfl, pen1, by omega, by decide, by decide, fun d n2 g2 H2 d0 d1 hn2 off2 pen2 => ⟨_, _, rfl, rfl, _, rfl, _, rfl, by decide +kernel, ?_⟩⟩
    have hd : d ∈ ([0, 1, 2] : List Int) := by
      simp only [List.mem_cons, List.not_mem_nil, or_false]
      omega
    obtain ⟨c1, c2, c3⟩ := cut_ok d hd
    refine ⟨cutN d, rfl, fun D hD => ?_⟩
    generalize cutN d = zc at c1 c2 c3
    have lz : zc.cps.toList.length = zc.length := Array.length_toList
    have nDp : D ≠ p := fun z => by rw [z, pen2.pen] at hD; cases hD
    refine lc_it walk_str (fun i H' => Same H2 H' ∧ H' D = some (.lst (((zc.cps.toList.take i).map fun c => st ++ (⟨#[c]⟩ : Str)).map V.str))) ⟨Same.over (Same.refl H2) hD, upd_same⟩ (fun _ _ _ _ => trivial) ?_ ?_
    · rintro i x H3 H4 hi ⟨s3, hDi⟩ ⟨rfl, c, hc1, rfl⟩
      have hc2 : zc.cps.toList[i]? = some c := by
        rw [Array.getElem?_toList]
        exact hc1
      obtain ⟨_, k1, k2⟩ := crew_ok st hst c (c3 c (List.mem_of_getElem? hc2))
      refine ⟨rfl, _, rfl, _, rfl, _, _, rfl, rfl, ?_, _, hDi, ?_, Same.over s3 hD, ?_⟩
      · have := sizeLine_eq
        show st.length + 1 ≤ sizeLine
        omega
      · rw [List.length_map, List.length_map]
        have h2 : (zc.cps.toList.take i).length ≤ zc.cps.toList.length := List.length_take_le' _ _
        have := sizeLine_eq
        omega
      · rw [upd_same, List.take_add_one, hc2, List.map_append, List.map_append]
        rfl
    · rintro H3 ⟨s3, hDi⟩
      rw [List.take_of_length_le (by rw [lz]; exact Nat.le_refl _)] at hDi
      refine q _ D n2 g2 H3 (by rw [List.length_map, lz]; exact c1) (by rw [List.length_map, lz]; exact c2) (fun z hz => ?_) (by omega) ((offA.trans off2).trans (offS s3)) (pen2.same s3) hDi nDp
      obtain ⟨c, hc, rfl⟩ := List.mem_map.mp hz
      exact (crew_ok st hst c (c3 c hc)).1
/-! ### the text of a row, by the law -/
end
end K13

namespace K13
open PySem PySem.Spec PyProof.Rows L2 So
abbrev sInit : Stmt := inClass (topS 28) 1
abbrev sInv : Stmt := inClass (topS 28) 6
abbrev sET : Stmt := inClass (topS 6) 0
abbrev sEL : Stmt := inClass (topS 7) 0
theorem scET : FnScope ["self", "tool"] ["self", "tool"] (defScope sET) := ⟨rfl, rfl, rfl, by decide +kernel, rfl, by decide +kernel, by decide +kernel⟩
theorem scEL : FnScope ["self", "value"] ["self", "value"] (defScope sEL) := ⟨rfl, rfl, rfl, by decide +kernel, rfl, by decide +kernel, by decide +kernel⟩
theorem scInit : FnScope ["self", "tool", "moment", "is_sound"] ["self", "tool", "moment", "is_sound"] (defScope sInit) := ⟨rfl, rfl, rfl, by decide +kernel, rfl, by decide +kernel, by decide +kernel⟩
theorem scInv : FnScope ["self"] ["self"] (defScope sInv) := ⟨rfl, rfl, rfl, by decide +kernel, rfl, by decide +kernel, by decide +kernel⟩
/-- the attributes of a saying -/
def sf (z : Str) (m : Int) (b : Bool) : List (Str × V) := [("tool", .str z), ("moment", .int m), ("is_sound", .bl b)]
theorem sf_put (z : Str) (m : Int) (b : Bool) : putF "is_sound" (.bl b) (putF "moment" (.int m) (putF "tool" (.str z) [])) = sf z m b := by
  have e1 : ¬ (("tool" : Str) = "moment") := by decide +kernel
  have e2 : ¬ (("tool" : Str) = "is_sound") := by decide +kernel
  have e3 : ¬ (("moment" : Str) = "is_sound") := by decide +kernel
  simp [putF, sf, e1, e2, e3]
theorem sf_tool (z : Str) (m : Int) (b : Bool) : (sf z m b).lookup ("tool" : Str) = some (.str z) := by
  simp [sf, List.lookup]
theorem sf_moment (z : Str) (m : Int) (b : Bool) : (sf z m b).lookup ("moment" : Str) = some (.int m) := by
  have e1 : (("moment" : Str) == "tool") = false := by decide +kernel
  simp [sf, List.lookup, e1]
theorem sf_sound (z : Str) (m : Int) (b : Bool) : (sf z m b).lookup ("is_sound" : Str) = some (.bl b) := by
  have e1 : (("is_sound" : Str) == "tool") = false := by decide +kernel
  have e2 : (("is_sound" : Str) == "moment") = false := by decide +kernel
  simp [sf, List.lookup, e1, e2]
theorem sf_no (z : Str) (m : Int) (b : Bool) {f : Str} (h1 : (f == "tool") = false) (h2 : (f == "moment") = false) (h3 : (f == "is_sound") = false) : (sf z m b).lookup f = none := by
  simp [sf, List.lookup, h1, h2, h3]
/-- the attributes of what Saying() makes -/
def sfV (t m b : V) : List (Str × V) := [("tool", t), ("moment", m), ("is_sound", b)]
theorem sfV_put (t m b : V) : putF "is_sound" b (putF "moment" m (putF "tool" t [])) = sfV t m b := by
  have e1 : ¬ (("tool" : Str) = "moment") := by decide +kernel
  have e2 : ¬ (("tool" : Str) = "is_sound") := by decide +kernel
  have e3 : ¬ (("moment" : Str) = "is_sound") := by decide +kernel
  simp [putF, sfV, e1, e2, e3]
/-- what the top says of the class Saying, at C -/
structure Say (K : PySem.W.Frag) (mg : Str → Option Value) (C : Addr) : Prop where
  cl : Cls K C
  nT : NoAttr K C "tool"
  nM : NoAttr K C "moment"
  nS : NoAttr K C "is_sound"
  mgC : mg "Saying" = some (.ref C)
  ha : PySem.W.findIn K (.ref C) "__class__" = some (some (.builtin "object.__class__"))
  hn : PySem.W.specialIn K (.builtin "object.__class__") "__get__" = some (some (.builtin "getset_descriptor.__get__"))
  htk : PySem.W.takesIn K (.builtin "object.__class__") = some true
  hm : PySem.W.mroIn K C (.type "object") = some true
  me : PySem.W.kitOne K (.ref C) (.ref C) = some true
  no : ∀ T, T ∈ ["tuple", "str", "NoneType", "int", "bool", "list"] → PySem.W.kitOne K (.type T) (.ref C) = some false ∧ PySem.W.notFirst K C (.type T) = true
/-- at a stands the saying (z, m, b) -/
def At (C : Addr) (H : Hp) (a : Addr) (z : Str) (m : Int) (b : Bool) : Prop := ∃ dx, H a = some (.ins C dx (sf z m b))
/-- a point as data -/
def dPt (z : Str) (m : Int) : PyData := .tuple [.str z, .int m]
theorem dp_pt {K : PySem.W.Frag} {H : Hp} {p : Addr} {z : Str} {m : Int} (h : H p = some (.tup [.str z, .int m])) : Dp K H (.ref p) (dPt z m) := .tup (SqT.of h) (.cons (.str z) (.cons (.int m) .nil))
theorem shaped_pt {z : Str} {m : Int} (h : PyData.strOk z = true) : SeqAt.shaped (dPt z m) = true := by
  unfold SeqAt.shaped dPt
  simp [PyData.canLay0, PyData.canLayAll0, PyData.depth, PyData.depthAll, h]
theorem eqv_pt (z z' : Str) (m m' : Int) : PyData.eqv (dPt z m) (dPt z' m') = decide (z = z' ∧ m = m') := by
  unfold dPt
  simp only [PyData.eqv, PyData.eqvAll, Bool.and_true]
  by_cases h1 : z = z' <;> by_cases h2 : m = m' <;> simp [h1, h2]
section
variable {P : Program} {w : World} {K : PySem.W.Frag} {mg : Str → Option Value} {base : Heap}

theorem ok_eT {C f : Addr} {fd : FuncData} (F : Fun K "__init__" "NoTool.__init__" sET f fd) (O : OneE K mg "NoTool" "tool" C f fd) : FnOk P w K mg base CX0 1 f fd ["self", "tool"] (spOneE C "tool") := by
  refine F.ok scET (fun vs H Q E h => ?_) (fun cdv A outer s H vs Q E hr h => ?_)
  · obtain ⟨a, v, rfl, _⟩ := h
    rfl
  · obtain ⟨a, v, rfl, ha, q⟩ := h
    exact ⟨_, pss_one (ps_ost (pv 0) (pv 1)), _, rfl, _, rfl, a, C, rfl, O.T, O.no, .inl ⟨ha, fun dx h n => q dx h n⟩⟩
theorem ok_eL {C f : Addr} {fd : FuncData} (F : Fun K "__init__" "NoLife.__init__" sEL f fd) (O : OneE K mg "NoLife" "value" C f fd) : FnOk P w K mg base CX0 1 f fd ["self", "value"] (spOneE C "value") := by
  refine F.ok scEL (fun vs H Q E h => ?_) (fun cdv A outer s H vs Q E hr h => ?_)
  · obtain ⟨a, v, rfl, _⟩ := h
    rfl
  · obtain ⟨a, v, rfl, ha, q⟩ := h
    exact ⟨_, pss_one (ps_ost (pv 0) (pv 1)), _, rfl, _, rfl, a, C, rfl, O.T, O.no, .inl ⟨ha, fun dx h n => q dx h n⟩⟩
/-- the errors of lives -/
structure ErrsL (K : PySem.W.Frag) (mg : Str → Option Value) (CT' CL : Addr) : Prop where
  t : ∃ (f : Addr) (fd : FuncData), OneE K mg "NoTool" "tool" CT' f fd ∧ Fun K "__init__" "NoTool.__init__" sET f fd
  l : ∃ (f : Addr) (fd : FuncData), OneE K mg "NoLife" "value" CL f fd ∧ Fun K "__init__" "NoLife.__init__" sEL f fd
/-- the first argument that is none: its error's class, the field, the value -/
def bad3 (CN CM CS : Addr) (t m b : V) : Option (Addr × Str × V) :=
  if gNam t = true then (if gMom m = true then (if gTru b = true then none else some (CS, "value", b)) else some (CM, "moment", m)) else some (CN, "name", t)
theorem passNo {X : Cx} {P : Program} {w : World} : Passes (L2.CX P w) X (fun _ _ _ => False) := fun _ _ _ _ _ _ _ h => by
  obtain ⟨_, _, _, _, _, _, _, _, _, _, _, _, hE⟩ := h
  exact hE.elim
/-- both ways out of what makes a saying of these arguments -/
def Ways (CN CM CS : Addr) (t m b : V) (H : Hp) (E : XK) (q : Prop) : Prop :=
  (bad3 CN CM CS t m b = none → q) ∧ ∀ C fl v, bad3 CN CM CS t m b = some (C, fl, v) → ∀ d H', Same H H' → H' d = some (.xd [(fl, v)]) → E (.ref C) (some d) H'

def spInit (CN CM CS C : Addr) : Sp := fun vs H Q E => ∃ (x dx : Addr) (t m b : V) (T1 T2 T3 : String), vs = [.ref x, t, m, b] ∧ H x = some (.ins C dx []) ∧ Gv H t T1 ∧ Gv H m T2 ∧ Gv H b T3 ∧
  Ways CN CM CS t m b H E (∀ H', Off x H H' → H' x = some (.ins C dx (sfV t m b)) → Q .non H')
theorem ok_init {CN CM CS f C fC : Addr} {fd fdC : FuncData} (F : Fun K "__init__" "Saying.__init__" sInit f fd) (T : Say K mg C) (FC : Fun K "check_form" "check_form" sCheck fC fdC) (bC : Binds K fdC ["value", "form"] []) (gC : mg "check_form" = some (.ref fC))
    (GC : FnOk P w K mg base (L2.CX P w) 3 fC fdC ["value", "form"] (spCheck CN CM CS)) : FnOk P w K mg base (L2.CX P w) 4 f fd ["self", "tool", "moment", "is_sound"] (spInit CN CM CS C) := by
  refine F.okX scInit (fun vs H Q E h => ?_) (fun cdv A outer s H vs Q E hr h => ?_)
  · obtain ⟨x, dx, t, m, b, T1, T2, T3, rfl, _⟩ := h
    rfl
  · obtain ⟨x, dx, t, m, b, T1, T2, T3, rfl, hx, v1, v2, v3, qy, qn⟩ := h
    have ps : ∀ σ : L2.St, True := fun _ => trivial
    refine ⟨_, pss_cons (ps_expr (pe_call GC hr (by rfl) gC FC.kp bC .nil (passes_call (takes_of rfl rfl rfl rfl) (fun _ _ _ _ h => h)) (pa_cons (pv 1) (pa_cons pe_str pa_nil))))
      (pss_cons (ps_expr (pe_call GC hr (by rfl) gC FC.kp bC .nil (passes_call (takes_of rfl rfl rfl rfl) (fun _ _ _ _ h => h)) (pa_cons (pv 2) (pa_cons pe_str pa_nil))))
      (pss_cons (ps_expr (pe_call GC hr (by rfl) gC FC.kp bC .nil (passes_call (takes_of rfl rfl rfl rfl) (fun _ _ _ _ h => h)) (pa_cons (pv 3) (pa_cons pe_str pa_nil))))
      (pss_cons (ps_fld (pv 0) (pv 1) rfl) (pss_cons (ps_fld (pv 0) (pv 2) rfl) (pss_one (ps_fld (pv 0) (pv 3) rfl)))))), ?_⟩
    refine ⟨_, rfl, t, T1, _, _, _, _, rfl, v1, .inl ⟨rfl, rfl, rfl, rfl⟩, fun g1 H1 s1 => ?_, fun g1 d H' s e => qn CN "name" t (by unfold bad3; rw [if_neg (by rw [g1]; exact Bool.false_ne_true)]) d H' s e⟩
    refine ⟨_, rfl, m, T2, _, _, _, _, rfl, v2.same s1, .inr (.inl ⟨rfl, rfl, rfl, rfl⟩), fun g2 H2 s2 => ?_, fun g2 d H' s e => qn CM "moment" m (by unfold bad3; rw [if_pos g1, if_neg (by rw [g2]; exact Bool.false_ne_true)]) d H' (s1.trans s) e⟩
    refine ⟨_, rfl, b, T3, _, _, _, _, rfl, v3.same (s1.trans s2), .inr (.inr (.inr ⟨rfl, rfl, rfl, rfl⟩)), fun g3 H3 s3 => ?_, fun g3 d H' s e => qn CS "value" b (by unfold bad3; rw [if_pos g1, if_pos g2, if_neg (by rw [g3]; exact Bool.false_ne_true)]) d H' ((s1.trans s2).trans s) e⟩
    have s123 := (s1.trans s2).trans s3
    refine ⟨_, rfl, _, rfl, x, C, dx, [], rfl, s123 _ _ hx, T.cl, T.nT, (by show 0 < 1000; decide), ?_⟩
    refine ⟨_, rfl, _, rfl, x, C, dx, _, rfl, upd_same, T.cl, T.nM, (by show 1 < 1000; decide), ?_⟩
    refine ⟨_, rfl, _, rfl, x, C, dx, _, rfl, upd_same, T.cl, T.nS, ?_, ?_⟩
    · exact Nat.lt_of_le_of_lt (length_putF _ _ _) (by show 1 + 1 < 1000; decide)
    · refine qy (by unfold bad3; rw [if_pos g1, if_pos g2, if_pos g3]) _ (fun c o n e => ?_) ?_
      · rw [upd_ne n, upd_ne n, upd_ne n]
        exact s123 c o e
      · rw [upd_same, sfV_put]
/-- behind Saying(t, m, b) -/
theorem made {CN CM CS C : Addr} {t m b : V} {T1 T2 T3 : String} {H1 : Hp} {Q : VK} {E : XK} (v1 : Gv H1 t T1) (v2 : Gv H1 m T2) (v3 : Gv H1 b T3) (h : Ways CN CM CS t m b H1 E (∀ (H' : Hp) (a dx : Addr), Same H1 H' → H' a = some (.ins C dx (sfV t m b)) → Q (.ref a) H')) :
    ∀ x dx, H1 x = none → H1 dx = none → dx ≠ x → spInit CN CM CS C (.ref x :: ([t, m, b] ++ [])) (upd (upd H1 dx (.own x)) x (.ins C dx [])) (fun v H2 => v = .non ∧ Q (.ref x) H2) E := by
  intro x dx hx hd ne
  have s0 : Same H1 (upd (upd H1 dx (.own x)) x (.ins C dx [])) := fun c o e => by
    rw [upd_ne (ne_of_none e hx), upd_ne (ne_of_none e hd)]
    exact e
  refine ⟨x, dx, t, m, b, T1, T2, T3, rfl, upd_same, v1.same s0, v2.same s0, v3.same s0, fun g H' o e => ⟨rfl, h.1 g H' x dx (fun c u z => ?_) e⟩, fun C' fl v g d H' s e => h.2 C' fl v g d H' (s0.trans s) e⟩
  exact o c u (ne_of_none z hx) (s0 c u z)
theorem bad3_ok {CN CM CS : Addr} {z : Str} {m : Int} {b : Bool} (h1 : isName z = true) (h2 : 0 ≤ m ∧ m ≤ 1000000000000000000000000000000) : bad3 CN CM CS (.str z) (.int m) (.bl b) = none := by
  unfold bad3
  rw [if_pos (show gNam (.str z) = true from h1), if_pos (show gMom (.int m) = true from decide_eq_true h2)]
  rfl
theorem Ways.ok {CN CM CS : Addr} {z : Str} {m : Int} {b : Bool} {H : Hp} {E : XK} {q : Prop} (h1 : isName z = true) (h2 : 0 ≤ m ∧ m ≤ 1000000000000000000000000000000) (h : q) : Ways CN CM CS (.str z) (.int m) (.bl b) H E q :=
  ⟨fun _ => h, fun C fl v e => by
    rw [bad3_ok h1 h2] at e
    cases e⟩
/-- ~saying -/
def spInv (C : Addr) : Sp := fun vs H Q _ => ∃ (a : Addr) (z : Str) (m : Int) (b : Bool), vs = [.ref a] ∧ At C H a z m b ∧ isName z = true ∧ (0 ≤ m ∧ m ≤ 1000000000000000000000000000000) ∧ ∀ (H' : Hp) (a' : Addr), Same H H' → At C H' a' z m (!b) → Q (.ref a') H'
theorem ok_inv {CN CM CS f C fI : Addr} {fd fdI : FuncData} (F : Fun K "__invert__" "Saying.__invert__" sInv f fd) (T : Say K mg C) (M : Mk K C fI) (bI : Binds K fdI ["self", "tool", "moment", "is_sound"] []) (GI : FnOk P w K mg base (L2.CX P w) 4 fI fdI ["self", "tool", "moment", "is_sound"] (spInit CN CM CS C)) :
    FnOk P w K mg base CX0 6 f fd ["self"] (spInv C) := by
  refine F.ok scInv (fun vs H Q E h => ?_) (fun cdv A outer s H vs Q E hr h => ?_)
  · obtain ⟨a, z, m, b, rfl, _⟩ := h
    rfl
  · obtain ⟨a, z, m, b, rfl, ⟨dx, ha⟩, hz, hm, q⟩ := h
    refine ⟨_, pss_one (ps_ret (pe_make M GI hr (by rfl) T.mgC bI .nil passNo (pa_cons (pe_fld (pv 0) rfl) (pa_cons (pe_fld (pv 0) rfl) (pa_cons (pe_not (pe_fld (pv 0) rfl)) pa_nil))))), ?_⟩
    refine ⟨_, rfl, a, C, dx, _, _, rfl, ha, T.cl, T.nT, sf_tool z m b, _, rfl, a, C, dx, _, _, rfl, ha, T.cl, T.nM, sf_moment z m b, _, rfl, a, C, dx, _, _, rfl, ha, T.cl, T.nS, sf_sound z m b, b, rfl, ?_⟩
    exact made (.str z (Nat.le_trans (name_len hz) (by decide))) (.int m) (.bl (!b)) (Ways.ok hz hm fun H' a' dx' s e => q H' a' s ⟨dx', e⟩)
/-- behind Saying(z, m, b) of a name and a moment -/
theorem madeS {CN CM CS C : Addr} {z : Str} {m : Int} {b : Bool} {H1 : Hp} {Q : VK} {E : XK} (hz : isName z = true) (hm : 0 ≤ m ∧ m ≤ 1000000000000000000000000000000) (q : ∀ (H' : Hp) (a : Addr), Same H1 H' → At C H' a z m b → Q (.ref a) H') :
    ∀ x dx, H1 x = none → H1 dx = none → dx ≠ x → spInit CN CM CS C (.ref x :: ([.str z, .int m, .bl b] ++ [])) (upd (upd H1 dx (.own x)) x (.ins C dx [])) (fun v H2 => v = .non ∧ Q (.ref x) H2) E :=
  made (.str z (Nat.le_trans (name_len hz) (by decide))) (.int m) (.bl b) (Ways.ok hz hm fun H' a' dx' s e => q H' a' s ⟨dx', e⟩)
theorem At.same {C : Addr} {H H' : Hp} {a : Addr} {z : Str} {m : Int} {b : Bool} (h : At C H a z m b) (s : Same H H') : At C H' a z m b := by
  obtain ⟨dx, e⟩ := h
  exact ⟨dx, s _ _ e⟩
end
end K13

/-! set(xs) of a list or a tuple of ints, so that sorted can walk it. -/
namespace So
open PySem PySem.Spec PyProof.Rows L2
/-- a set just made -/
abbrev bareSet (w : World) : Obj := { cls := .type "set", dict := none, data := .set #[] 0 (.fresh 0 0 (!w.params.followText "set-order")) }
section
variable {P : Program} {w : World} {A : Around} {E : Value → Shared → Prop} {s : Shared}
/-- what set(..) hands back -/
abbrev GotSet (w : World) (ns : List Int) (s : Shared) (h' : Heap) (c : Nat) : Prop :=
  SetR w h' s.heap.objs.size (fun j => decide (j ∈ ns)) c ∧ c ≤ ns.length ∧ ∀ b o, s.heap.get? b = some o → h'.get? b = some o
theorem set_of_list {l : Addr} {its : Array Value} (ns : List Int) {Q : Value → Shared → Prop} (hh : A.handled = none) (hl : s.heap.IsList l its) (hit : IntsAre its.toList ns) (hb : ns.length + 1 < scanBound)
    (q : ∀ h' tk c, GotSet w ns s h' c → Q (.ref s.heap.objs.size) { s with heap := h', toks := tk }) : wpAny (model P w) A (call (.type "set") [.ref l]) Q E s := by
  have sz : its.size = ns.length := by
    have e := hit.length
    rwa [Array.length_toList] at e
  obtain ⟨c, tl, mro⟩ := F.called_set.mro
  have mde := F.called_set.made
  have sbt := F.called_set.sub
  refine wpAny_call (codeAny_of_tree ?_)
  show wpAny _ _ (callAny (.type "set") _) _ _ _
  refine wpAny_pure ⟨Code.quiet_builtin _ (by decide +kernel), codeAny_builtin F.entry_type_call ?_⟩
  rw [Around.under_plain (weight_type_call_type "set" [.ref l] []) rfl]
  have k1 := F.called_set.notType
  have k2 := F.called_set.canCreate
  have k3 := F.typeCall_set_1 (.ref l)
  repeat (any_goals (first | assumption | wp_step))
  refine codeAny_mono (code_set_led1 (.ref l) (E := E) (Q₁ := fun ob s1 => ob = .ref s.heap.objs.size ∧ s1 = { s with heap := s.heap.push (bareSet w) }) ⟨rfl, rfl⟩) fun r s1 hr => ?_
  match r, hr with
  | .error e, hr => exact hr
  | .ok .next, hr => exact hr.elim
  | .ok .brk, hr => exact hr.elim
  | .ok .cont, hr => exact hr.elim
  | .ok (.ret ob), hr =>
    obtain ⟨rfl, rfl⟩ := hr
    generalize hH : s.heap.push (bareSet w) = g0
    have at0 : g0.get? s.heap.objs.size = some (bareSet w) := by rw [← hH]; exact Heap.get?_push_size _ rfl
    have up0 : ∀ b o, s.heap.get? b = some o → g0.get? b = some o := fun b o e => by rw [← hH]; exact Heap.get?_push_of_some _ e
    have z0 : g0.objs.size = s.heap.objs.size + 1 := by rw [← hH]; exact Heap.size_push ..
    have tS : Shared.TypeIs { s with heap := g0 } (.ref s.heap.objs.size) "set" := ⟨_, at0, rfl⟩
    have i1 := F.called_set.init.lookup
    have i2 := F.called_set.init.bind (.ref s.heap.objs.size)
    repeat (any_goals (first | assumption | wp_step))
    refine codeAny_mono (codeAny_call_builtin (R := wants (fun r s2 => r = .none ∧ ∃ h' tk c, s2 = { s with heap := h', toks := tk } ∧ GotSet w ns s h' c) E) F.called_set.init.plain F.entry_set_init (check_set_init_1 tS ?_)) fun r2 s2 hr2 => ?_
    · obtain ⟨ob, ho, hc, nl, hd⟩ := hl
      obtain ⟨cc, dd, da, sl⟩ := ob
      simp only at hc hd
      subst hc
      subst hd
      have ho1 := up0 _ _ ho
      have n1 := F.sub_list_set
      have n2 := F.sub_list_frozenset
      have n3 : (Value.type "list" == Value.type "dict") = false := by decide
      have il : g0.IsList l its := ⟨_, ho1, rfl, nl, rfl⟩
      unfold Builtin.«set.__init__» noKeywords Builtin.Frozenset.updateFrom
      generalize hit' : pyIter = pI
      wp_walk
      subst hit'
      refine wpAny_pyIter_list il (wpAny_bind (wpAny_runValue ?_))
      have ll : l < s.heap.objs.size := Heap.lt_size ho
      have nI : l ≠ g0.objs.size := by
        rw [z0]
        exact Nat.ne_of_lt (Nat.lt_succ_of_lt ll)
      have nS : s.heap.objs.size ∉ [g0.objs.size, l] := by
        intro z
        rcases List.mem_cons.mp z with z | z
        · rw [z0] at z
          exact Nat.ne_of_lt (Nat.lt_succ_self _) z
        · exact Nat.ne_of_gt ll (List.mem_singleton.mp z)
      have vals : ∀ (i : Nat) (v : Value), its[i]? = some v → ∃ k t, ns[i]? = some k ∧ v = .int k t := fun i v hv => by
        have hi : i < ns.length := by rw [← sz]; exact (Array.getElem?_eq_some_iff.mp hv).1
        obtain ⟨t, e⟩ := hit.int_at i v (by rw [Array.getElem?_toList]; exact hv)
        exact ⟨ns[i], t, List.getElem?_eq_getElem hi, by rw [e, List.getD_eq_getElem?_getD, List.getElem?_eq_getElem hi]; rfl⟩
      refine set_update_ints ((Walks.list (by simp [hh]) _ l nI its).toS) s.heap.objs.size nS ns sz hb vals (its.size - 0) 0 _ (by omega) (Nat.zero_le _) ⟨⟨_, Heap.get?_push_size _ rfl, rfl, rfl⟩, il.push _⟩
        ⟨0, Nat.le_refl 0, setR_new_at (Heap.get?_push_of_some _ at0)⟩ fun s' c' hm hc' hS' => ?_
      obtain ⟨h', g2, d', tk', os'⟩ := s'
      have eg : g2 = s.gens := hm.gens
      have ed : d' = s.drawn := hm.drawn
      have eo : os' = s.os := hm.os
      subst eg ed eo
      rw [sz] at hc'
      refine wpAny_pure (wpAny_pure ⟨rfl, h', tk', c', rfl, hS', hc', fun b o e => ?_⟩)
      have hb0 : b < s.heap.objs.size := Heap.lt_size e
      refine hm.heap b o (fun z => ?_) (Heap.get?_push_of_some _ (up0 _ _ e))
      rcases List.mem_cons.mp z with z | z
      · exact Nat.ne_of_lt hb0 z
      · rw [List.mem_singleton.mp z, z0] at hb0
        exact Nat.lt_irrefl _ (Nat.lt_of_succ_lt hb0)
    · match r2, hr2 with
      | .error e, hr2 => exact hr2
      | .ok .next, hr2 => exact hr2.elim
      | .ok .brk, hr2 => exact hr2.elim
      | .ok .cont, hr2 => exact hr2.elim
      | .ok (.ret r), hr2 =>
        obtain ⟨rfl, h', tk, c', rfl, g⟩ := hr2
        repeat (any_goals (first | assumption | wp_step))
        exact q _ _ _ g
end
/-- set(xs): ints, fewer than 64 -/
def rSetI (K : PySem.W.Frag) (w : World) : List V → Hp → VK → Prop := fun xs H Q => ∃ (l : Addr) (ns : List Int), xs = [.ref l] ∧ (SqL K H l (ns.map V.int) ∨ SqT K H l (ns.map V.int)) ∧ ns.length < 64 ∧
  ∀ p c, H p = none → c ≤ ns.length → Q (.ref p) (upd H p (SetO w p (fun k => decide (k ∈ ns)) c))
section
variable {X : Cx}
theorem cr_setI (hc : X.calm = true) : CallR X (.type "set") (rSetI X.K X.w) := by
  intro pins s σ H xs us Q I r h
  obtain ⟨l, ns, rfl, hs, hl, q⟩ := h
  rw [Vals.ref1 r]
  have fin : ∀ (h' : Heap) (tk c : Nat), GotSet X.w ns s h' c → EP X pins σ Q (.ref s.heap.objs.size) { s with heap := h', toks := tk } := fun h' tk c ⟨g1, g2, g3⟩ =>
    ⟨.ref s.heap.objs.size, _, I.laid (t' := tk) g3 (Nat.le_refl _) (setO_new g1), rfl, q _ c (I.hok.fresh (Nat.le_refl _)) g2⟩
  have hb : ns.length + 1 < scanBound := by
    unfold scanBound
    omega
  rcases hs with hs | hs
  · obtain ⟨its, rv, pl, _⟩ := I.list hs
    exact set_of_list ns (I.ok.hd hc) pl.isList (by simpa using ints_of_vals rv) hb fin
  · obtain ⟨its, rv, pl, _⟩ := I.tuple hs
    exact call_set_tupI ns (I.ok.hd hc) pl (by simpa using ints_of_vals rv) hb fun h' tk c g1 g2 g3 => fin h' tk c ⟨g1, g2, g3⟩
/-- sorted(set(xs)) -/
theorem pairwise_ext : ∀ {xs ys : List Int}, xs.Pairwise (· < ·) → ys.Pairwise (· < ·) → (∀ k, k ∈ xs ↔ k ∈ ys) → xs = ys
  | [], [], _, _, _ => rfl
  | [], y :: ys, _, _, h => absurd ((h y).mpr List.mem_cons_self) (by simp)
  | x :: xs, [], _, _, h => absurd ((h x).mp List.mem_cons_self) (by simp)
  | x :: xs, y :: ys, hx, hy, h => by
    rw [List.pairwise_cons] at hx hy
    have e : x = y := by
      rcases List.mem_cons.mp ((h x).mp List.mem_cons_self) with e | e
      · exact e
      · rcases List.mem_cons.mp ((h y).mpr List.mem_cons_self) with e2 | e2
        · exact e2.symm
        · have a := hy.1 x e
          have b := hx.1 y e2
          omega
    subst e
    congr 1
    refine pairwise_ext hx.2 hy.2 fun k => ⟨fun hk => ?_, fun hk => ?_⟩
    · rcases List.mem_cons.mp ((h k).mp (List.mem_cons_of_mem _ hk)) with e | e
      · subst e
        exact absurd (hx.1 _ hk) (by omega)
      · exact e
    · rcases List.mem_cons.mp ((h k).mpr (List.mem_cons_of_mem _ hk)) with e | e
      · subst e
        exact absurd (hy.1 _ hk) (by omega)
      · exact e
end
end So

namespace So
open PySem PySem.Spec PyProof.Rows L2 PySem.HandSPX
section
variable {M : Model} {A : Around} {E : Value → Shared → Prop} {h : Heap} {g : Array GenState} {d : Drawn} {t : Nat} {os : OsState}
variable {nm q : Str} {C N : Addr} {bs bm bmB : List Value} {hdct : Bool} {sn : List Str} {sub : List Value} {ab : Bool} {col : Option Bool} {dd : Option Addr} {k0 k1 k2 k3 k5 : Option Value} {B newId initId : String}
theorem kw_check (F : ExcBaseFacts B newId initId bmB) (hT : ∀ X : String, bm.contains (.type X) = bmB.contains (.type X)) {kws : List (Str × Value)} {Q : Unit → Shared → Prop}
    (hC : h.get? C = some (excClassObj nm q C N bs bm hdct sn sub ab col dd k0 k1 k2 k3 k5 newId)) (hq : Q () ⟨h, g, d, t, os⟩) :
    wpAny M A (checkBuiltinCall newId ⟨[.ref C], kws⟩) Q E ⟨h, g, d, t, os⟩ := by
  have inB : (Value.ref C :: bm).contains (.type B) = true := by
    rw [List.contains_cons, hT, F.hasB, Bool.or_true]
  have stars := F.noStar
  simp only [checkBuiltinCall, F.newKind, F.newSplit, F.newRow]
  repeat (first
    | refine wpAny_loadPart_at hC ?_
    | (refine wpAny_isSubtype_exc hC ?_
       rw [inB])
    | refine wpAny_staticBase_exc hC ?_
    | refine wpAny_madeBy_exc hC ?_
    | simp only [bne_self_eq_false, Bool.false_eq_true, if_false]
    | wp_step)
  exact hq
end
section
variable {prog : Program} {w : World} {A : Around} {E : Value → Shared → Prop} {R : Result → Shared → Prop} {h : Heap} {g : Array GenState} {d : Drawn} {t : Nat} {os : OsState}
variable {nm q : Str} {C N : Addr} {bs bm bmB : List Value} {hdct : Bool} {sn : List Str} {sub : List Value} {ab : Bool} {col : Option Bool} {dd : Option Addr} {k0 k1 k2 k3 k5 : Option Value} {B newId initId : String}
theorem kw_new (F : ExcBaseFacts B newId initId bmB) (hT : ∀ X : String, bm.contains (.type X) = bmB.contains (.type X)) {kws : List (Str × Value)}
    (hC : h.get? C = some (excClassObj nm q C N bs bm hdct sn sub ab col dd k0 k1 k2 k3 k5 newId))
    (hq : R (.ok (.ret (.ref (h.objs.size + 1)))) ⟨(h.push (PySem.W.kdv_tup [])).push (excO C h.objs.size), g, d, t, os⟩) :
    codeAny (model prog w) A (.builtin newId ⟨[.ref C], kws⟩) R ⟨h, g, d, t, os⟩ := by
  have ends := F.ends
  have inB : (Value.ref C :: bm).contains (.type B) = true := by
    rw [List.contains_cons, hT, F.hasB, Bool.or_true]
  have noA : (Value.ref C :: bm).contains (.type "AttributeError") = false := by
    rw [List.contains_cons, hT, F.noAttr]
    rfl
  have noN : (Value.ref C :: bm).contains (.type "NameError") = false := by
    rw [List.contains_cons, hT, F.noName]
    rfl
  refine codeAny_builtinAt F.entry ?_
  unfold Builtin.«BaseException.__new__»
  refine PySem.wpAt_bind ?_
  show PySem.wpAt _ _ _ (stack >>= _) _ _ _
  refine PySem.wpAt_bind (PySem.wpAt_stack fun p below => ?_)
  refine PySem.wpAt_of_wpAny ?_
  wp_walk
  refine PySem.wpAt_of_wpAny ?_
  rw [F.owner]
  repeat (first
    | with_reducible refine wpAny_madeHere_exc F.canon hC ?_
    | with_reducible refine wpAny_loadPart_at hC ?_
    | (with_reducible refine wpAny_isSubtype_exc hC ?_
       first
         | rw [inB]
         | rw [noA]
         | rw [noN])
    | wp_step)
  show R _ _
  rw [Heap.size_push]
  exact hq
theorem kw_type (F : ExcBaseFacts B newId initId bmB) (hT : ∀ X : String, bm.contains (.type X) = bmB.contains (.type X)) {kws : List (Str × Value)} {fI : Addr} {Q : Fin → Shared → Prop}
    (hC : h.get? C = some (excClassObj nm q C N bs bm hdct sn sub ab col dd k0 k1 k2 k3 k5 newId))
    (hi : PySem.W.Looks (model prog w) h (typeLookup (.ref C) "__init__") (some (.ref fI))) (hb : ∀ self, PySem.W.Looks (model prog w) h (bindSpecial (.ref fI) self) (.ref fI, [self]))
    (hq : codeAny (model prog w) A (.call (.ref fI) ⟨[.ref (h.objs.size + 1)], kws⟩)
      (fun r s' => match r with | .ok (.ret v) => v = .none ∧ Q (.done (.ret (.ref (h.objs.size + 1)))) s' | .ok _ => False | .error e => E e s')
      ⟨(h.push (PySem.W.kdv_tup [])).push (excO C h.objs.size), g, d, t, os⟩) :
    wpAny (model prog w) A (Builtin.«type.__call__» ⟨[.ref C], kws⟩) Q E ⟨h, g, d, t, os⟩ := by
  repeat (first
    | with_reducible refine wpAny_loadPart_at hC ?_
    | with_reducible refine wpAny_madeBy_exc hC ?_
    | wp_step)
  refine codeAny_call_builtin_code (Code.quiet_builtin _ F.quiet) ?_
  refine kw_check F hT hC ?_
  refine kw_new F hT hC ?_
  show wpAny _ _ _ _ _ _
  have keep : ∀ b o, h.get? b = some o → ((h.push (PySem.W.kdv_tup [])).push (excO C h.objs.size)).get? b = some o := by
    intro b o e
    exact Heap.get?_push_of_some _ (Heap.get?_push_of_some _ e)
  have hC' := keep _ _ hC
  have here : ((h.push (PySem.W.kdv_tup [])).push (excO C h.objs.size)).get? (h.objs.size + 1) = some (excO C h.objs.size) := by
    heap_get
  have self : (Value.ref C :: bm).contains (.ref C) = true := by simp
  have look := hi.keeps keep
  have bind := (hb (.ref (h.objs.size + 1))).keeps keep
  unfold isInstance
  repeat (first
    | with_reducible refine wpAny_loadPart_at here ?_
    | (with_reducible refine wpAny_isSubtype_exc hC' ?_
       rw [self])
    | wp_step)
  show wpAny _ _ (typeLookup (.ref C) _) _ _ _
  refine look.at ?_
  refine wpAny_holding (wpAny_bind (bind.at ?_))
  refine wpAny_bind (wpAny_call (codeAny_mono hq fun r s' z => ?_))
  match r, z with
  | .error e, z => exact z
  | .ok .next, z => exact z.elim
  | .ok .brk, z => exact z.elim
  | .ok .cont, z => exact z.elim
  | .ok (.ret v), z =>
    obtain ⟨e, z⟩ := z
    subst e
    first
      | exact wpAny_pure (wpAny_pure z)
      | (wp_walk
         exact z)
theorem kw_checkT {kws : List (Str × Value)} {Q : Unit → Shared → Prop} (hC : h.get? C = some (excClassObj nm q C N bs bm hdct sn sub ab col dd k0 k1 k2 k3 k5 newId)) (hq : Q () ⟨h, g, d, t, os⟩) :
    wpAny (model prog w) A (checkBuiltinCall "type.__call__" ⟨[.ref C], kws⟩) Q (fun e s' => E e s') ⟨h, g, d, t, os⟩ := by
  have f3 := tc_sub
  have ty : (⟨h, g, d, t, os⟩ : Shared).TypeIs (.ref C) "type" := ⟨_, hC, rfl⟩
  simp only [checkBuiltinCall, tc_kind, tc_split]
  repeat (any_goals (first
    | assumption
    | with_reducible refine wpAny_loadPart_at hC ?_
    | with_reducible refine wpAny_onRaise ?_
    | with_reducible refine wpAny_map ?_
    | wp_step))
theorem kw_call (F : ExcBaseFacts B newId initId bmB) (hT : ∀ X : String, bm.contains (.type X) = bmB.contains (.type X)) {kws : List (Str × Value)} {fI : Addr}
    (hC : h.get? C = some (excClassObj nm q C N bs bm hdct sn sub ab col dd k0 k1 k2 k3 k5 newId))
    (hi : PySem.W.Looks (model prog w) h (typeLookup (.ref C) "__init__") (some (.ref fI))) (hb : ∀ self, PySem.W.Looks (model prog w) h (bindSpecial (.ref fI) self) (.ref fI, [self]))
    (hq : codeAny (model prog w) (A.under (.builtin "type.__call__" ⟨[.ref C], kws⟩)) (.call (.ref fI) ⟨[.ref (h.objs.size + 1)], kws⟩) (PySem.W.InitBack (h.objs.size + 1) R)
      ⟨(h.push (PySem.W.kdv_tup [])).push (excO C h.objs.size), g, d, t, os⟩) :
    codeAny (model prog w) A (.call (.ref C) ⟨[], kws⟩) R ⟨h, g, d, t, os⟩ := by
  have lk := tc_lookup
  have bd := tc_bind (.ref C)
  have ty : (⟨h, g, d, t, os⟩ : Shared).TypeIs (.ref C) "type" := ⟨_, hC, rfl⟩
  refine codeAny_of_tree ?_
  show wpAny _ _ (callAny (.ref C) _) _ _ _
  repeat (any_goals (first
    | assumption
    | with_reducible refine wpAny_loadPart_at hC ?_
    | wp_step))
  refine ⟨rfl, ?_⟩
  refine codeAny_call_builtin_at (Code.quiet_builtin _ (by decide +kernel)) entry_typeCall ?_
  refine kw_checkT hC ?_
  refine kw_type F hT hC hi hb ?_
  refine codeAny_mono hq fun r s' z => ?_
  match r, z with
  | .error e, z => exact z
  | .ok (.ret v), z => exact z
  | .ok .next, z => exact z
  | .ok .brk, z => exact z
  | .ok .cont, z => exact z
end
end So

namespace So
open PySem PySem.Spec PyProof.Rows L2
/-- C(k = v, ..), C's own __init__ keeping sp -/
def tMkK (C : Addr) (n : Nat) (sp : Sp) (gV : List V → List V → List V) (tk : TA) : L2.St → Hp → XK → Prop := fun σ H Q => tk σ H fun zs H1 => zs.length = n ∧ ∀ a, H1 a = none → sp (gV [.ref a] zs) (upd H1 a (exo a C none))
  (fun v H2 => v = .non ∧ ∃ (d : Addr) (fs : List (Str × V)), H2 a = some (exo a C (some d)) ∧ H2 d = some (exd d fs) ∧ H1 d = none ∧ Q (.ref C) (some d) (upd (del H2 a) d (.xd fs))) (fun _ _ _ => False)
section
variable {X : Cx} {CX : CXT} {x : Str} {C fI : Addr} {k : Nat} {fd : FuncData} {ps ks : List Str} {sp : Sp} {g : List Value → List Value → List Value} {gV : List V → List V → List V} {kws : List Keyword} {tk : TA} {p pos : Pos}
theorem pmk_oexK (T : OexC X.K C) (iC : PySem.W.findIn X.K (.ref C) "__init__" = some (some (.ref fI))) (tI : PySem.W.typeIn X.K (.ref fI) = some (.type "function")) (F1 : FnOk X.prog X.w X.K X.mg X.base CX k fI fd ps sp) (hr : Room (k + 1) X.A) (hb : KBn X.K fd ps 1 ks g gV)
    (hx : Passes CX X (fun _ _ _ => False)) (hg : Gl X x) (hm : X.mg x = some (.ref C)) (hkw : PK X kws tk)
    (hall : (backToKw pos (keywordEach kws X.env)).all (·.1.isSome) = true := by rfl) (hks : (backToKw pos (keywordEach kws X.env)).filterMap (·.1) = ks := by rfl) (hdb : (x == ("__debug__" : Str)) = false := by decide)
    (hpl : ((backTo pos (starEach [] X.env)).any (·.1) || (backToKw pos (keywordEach kws X.env)).any (·.1.isNone)) = false := by rfl) :
    PMk X (.Call (.Name x p) [] kws pos) (tMkK C ks.length sp gV tk) := by
  intro pins s σ H Q I h
  obtain ⟨nm, q, N, bs, bm, sn, sub, ab, col, dd, k0, k1, k2, k3, k5, hC, hbm⟩ := T.cls
  refine wpAny_Call_Name_kw (ld_glob I hg hm ?_ hdb)
  refine PySem.W.callWith_KW0 (h₀ := X.base) I.ok.mod.kin T.kC hall ?_ hpl
  refine thn (hkw.run pos pins s σ H _ I h) fun ws s1 z => ?_
  obtain ⟨zs, H1, I1, rz, hz, q1⟩ := z
  refine ⟨I1.kIn, ?_⟩
  rw [hks]
  show wpAny _ _ (call (.ref C) [] (ks.zip ws)) _ _ _
  obtain ⟨hp, g', dr, tk', os⟩ := s1
  have big : hp.objs.size ≤ hp.objs.size + 1 := Nat.le_succ _
  have fresh : H1 (hp.objs.size + 1) = none := I1.hok.fresh big
  have hq := q1 _ fresh
  have keep : ∀ b o, hp.get? b = some o → ((hp.push (PySem.W.kdv_tup [])).push (PySem.HandSPX.excO C hp.objs.size)).get? b = some o := by
    intro b o e
    exact Heap.get?_push_of_some _ (Heap.get?_push_of_some _ e)
  have here : ((hp.push (PySem.W.kdv_tup [])).push (PySem.HandSPX.excO C hp.objs.size)).get? (hp.objs.size + 1) = some (PySem.HandSPX.excO C hp.objs.size) := by
    heap_get
  have I2 : Inv X pins σ (upd H1 (hp.objs.size + 1) (exo (hp.objs.size + 1) C none)) ⟨(hp.push (PySem.W.kdv_tup [])).push (PySem.HandSPX.excO C hp.objs.size), g', dr, tk', os⟩ :=
    I1.laid (t' := tk') (o := exo (hp.objs.size + 1) C none) keep big (exo_ok here)
  have r1 : Vals [V.ref (hp.objs.size + 1)] [Value.ref (hp.objs.size + 1)] := .cons rfl .nil
  refine wpAny_call (kw_call F.excBase_ValueError (fun Y => PySem.HandSPX.refsVE_contains Y bm hbm) (I1.kIn _ _ hC) (PySem.W.looks_findIn I1.kIn iC) (fun self => PySem.W.bind_fn I1.kIn self tI)
    (codeAny_mono (F1.run _ X.stack _ _ ⟨[.ref (hp.objs.size + 1)], ks.zip ws⟩ (g [.ref (hp.objs.size + 1)] ws) _ _ (fun _ _ _ => False) (hr.make C [] (ks.zip ws)) (I2.env0.make C [] (ks.zip ws))
      (hb.to _ [.ref (hp.objs.size + 1)] ws I2.kIn rfl (rz.length.symm.trans hz)) (hb.rel r1 rz) hq) fun r s' hq' => ?_))
  match r, hq' with
  | .error er, hq' => exact hx pins σ _ _ er s' I2 hq'
  | .ok .next, hq' => exact hq'.elim
  | .ok .brk, hq' => exact hq'.elim
  | .ok .cont, hq' => exact hq'.elim
  | .ok (.ret u), hq' =>
    obtain ⟨v, H2, os2, bare2, un2, hok2, rv, ev, d, fs, ea, ed, hd1, q2⟩ := hq'
    subst ev
    obtain ⟨h2, g2, d2, t2, os'⟩ := s'
    exact ⟨rv, mk_end (raises_own T.exC T.tyC) I1 big keep un2 hok2 os2 bare2 ea ed hd1 q2⟩
/-- an exception that is made and kept, not raised -/
theorem pe_ofMk {e : Expr} {t : L2.St → Hp → XK → Prop} (hex : X.ex = []) (h : PMk X e t) : PE X e (fun σ H Q => t σ H fun cls d H' => ∀ a, H' a = none → Q (.ref a) (upd H' a (Xo cls d a))) := by
  refine ⟨fun pins s σ H Q I w => ?_⟩
  refine thn (h pins s σ H _ I w) fun u s' z => ?_
  obtain ⟨a, oe, fv, sI, H', cls, d, rfl, J, k, na, he, hz, hd, h1, nH, ho, hb, _, q⟩ := z
  have K := J.kept (t' := s'.toks) (h' := s'.heap) k
  have I' : Inv X pins σ H' s' := ⟨K.ok, ho.trans J.os, hb, K.base, K.loc, K.cell, K.free, K.freeC, K.pin, K.hok, K.len⟩
  have nL : a ≠ X.env.locals := fun z => by
    obtain ⟨m, hn, _⟩ := J.loc
    obtain ⟨o, es, ep, e, _⟩ := hn
    rw [← z, na] at e
    cases e
  exact ⟨.ref a, _, track J hex na I' he hz hd nH nL, rfl, q a nH⟩
end
end So

namespace So
open PySem PySem.Spec PyProof.Rows L2
theorem overS {H H1 : Hp} {D : Addr} {o : HO} (s : Same H H1) (h : H1 D = none) : Same H (upd H1 D o) := fun b u e => (upd_ne (ne_of_none (s b u e) h)).trans (s b u e)
/-! ### errors with two fields -/
def spTwoE (C : Addr) (n1 n2 : Str) : Sp := fun vs H Q _ => ∃ (a : Addr) (v1 v2 : V), vs = [.ref a, v1, v2] ∧ H a = some (exo a C none) ∧ ∀ dx, H dx = none → dx ≠ a → Q .non (upd (upd (upd H dx (exd dx [(n1, v1)])) a (exo a C (some dx))) dx (exd dx [(n2, v2), (n1, v1)]))
section
variable {P : Program} {w : World} {K : PySem.W.Frag} {mg : Str → Option Value} {base : Heap}
theorem ok_one {n qual : Str} {st : Stmt} {C f : Addr} {fd : FuncData} (F : Fun K "__init__" qual st f fd) (T : OexC K C) (no : PySem.W.findIn K (.ref C) n = some none) (S : FnScope ["self", n] ["self", n] (defScope st))
    (hb : ∃ p1 p2 p3 p4, defBody st = [.Assign [.Attribute (.Name "self" p1) n p2] (.Name n p3) p4]) (h1 : (n == ("__debug__" : Str)) = false) (h2 : (n == ("__classdict__" : Str)) = false) :
    FnOk P w K mg base CX0 1 f fd ["self", n] (spOneE C n) := by
  obtain ⟨p1, p2, p3, p4, hb⟩ := hb
  refine F.ok S (fun vs H Q E h => ?_) (fun cdv A outer s H vs Q E hr h => ?_)
  · obtain ⟨a, v, rfl, _⟩ := h
    rfl
  · obtain ⟨a, v, rfl, ha, q⟩ := h
    rw [hb]
    have vs0 : Vis (defScope st) "self" := vis_par S (by simp)
    have vs1 : Vis (defScope st) n := vis_par S (by simp)
    exact ⟨_, pss_one (ps_ost (pe_var (i := 0) rfl vs0) (pe_var (i := 1) rfl vs1 h1 h2)), _, rfl, _, rfl, a, C, rfl, T, no, .inl ⟨ha, fun dx h n => q dx h n⟩⟩
theorem ok_two {n1 n2 qual : Str} {st : Stmt} {C f : Addr} {fd : FuncData} (F : Fun K "__init__" qual st f fd) (T : OexC K C) (no1 : PySem.W.findIn K (.ref C) n1 = some none) (no2 : PySem.W.findIn K (.ref C) n2 = some none) (S : FnScope ["self", n1, n2] ["self", n1, n2] (defScope st))
    (hb : ∃ p1 p2 p3 p4 q1 q2 q3 q4, defBody st = [.Assign [.Attribute (.Name "self" p1) n1 p2] (.Name n1 p3) p4, .Assign [.Attribute (.Name "self" q1) n2 q2] (.Name n2 q3) q4]) (h1 : (n1 == ("__debug__" : Str)) = false) (h2 : (n1 == ("__classdict__" : Str)) = false)
    (h3 : (n2 == ("__debug__" : Str)) = false) (h4 : (n2 == ("__classdict__" : Str)) = false) : FnOk P w K mg base CX0 1 f fd ["self", n1, n2] (spTwoE C n1 n2) := by
  obtain ⟨p1, p2, p3, p4, q1, q2, q3, q4, hb⟩ := hb
  refine F.ok S (fun vs H Q E h => ?_) (fun cdv A outer s H vs Q E hr h => ?_)
  · obtain ⟨a, v1, v2, rfl, _⟩ := h
    rfl
  · obtain ⟨a, v1, v2, rfl, ha, q⟩ := h
    rw [hb]
    have vs0 : Vis (defScope st) "self" := vis_par S (by simp)
    have vs1 : Vis (defScope st) n1 := vis_par S (by simp)
    have vs2 : Vis (defScope st) n2 := vis_par S (by simp)
    refine ⟨_, pss_cons (ps_ost (pe_var (i := 0) rfl vs0) (pe_var (i := 1) rfl vs1 h1 h2)) (pss_one (ps_ost (pe_var (i := 0) rfl vs0) (pe_var (i := 2) rfl vs2 h3 h4))), ?_⟩
    refine ⟨_, rfl, _, rfl, a, C, rfl, T, no1, .inl ⟨ha, fun dx hd ne => ?_⟩⟩
    refine ⟨_, rfl, _, rfl, a, C, rfl, T, no2, .inr ⟨dx, [(n1, v1)], upd_same, ?_, by show 1 ≤ 900; decide, q dx hd ne⟩⟩
    rw [upd_ne ne, upd_same]
end
/-- behind C(v1, v2) -/
theorem mkTwo {C : Addr} {n1 n2 : Str} {v1 v2 : V} {H1 : Hp} {Q : XK} (h : ∀ d H', Same H1 H' → H1 d = none → H' d = some (.xd [(n2, v2), (n1, v1)]) → Q (.ref C) (some d) H') :
    ∀ a, H1 a = none → spTwoE C n1 n2 [.ref a, v1, v2] (upd H1 a (exo a C none))
      (fun v H2 => v = .non ∧ ∃ (d : Addr) (fs : List (Str × V)), H2 a = some (exo a C (some d)) ∧ H2 d = some (exd d fs) ∧ H1 d = none ∧ Q (.ref C) (some d) (upd (del H2 a) d (.xd fs))) (fun _ _ _ => False) := by
  refine fun a ha => ⟨a, v1, v2, rfl, upd_same, fun dx hdx ne => ?_⟩
  have hd : H1 dx = none := by
    rw [upd_ne ne] at hdx
    exact hdx
  refine ⟨rfl, dx, [(n2, v2), (n1, v1)], ?_, upd_same, hd, h dx _ (fun b o hb => ?_) hd upd_same⟩
  · rw [upd_ne ne.symm, upd_same]
  · have hba : b ≠ a := ne_of_none hb ha
    have hbd : b ≠ dx := ne_of_none hb hd
    rw [upd_ne hbd, del_ne hba, upd_ne hbd, upd_ne hba, upd_ne hbd, upd_ne hba]
    exact hb
/-- a kept error with its fields -/
def ErAt (H : Hp) (a C : Addr) (fs : List (Str × V)) : Prop := ∃ d, H a = some (Xo (.ref C) (some d) a) ∧ H d = some (.xd fs)
theorem ErAt.same {H H' : Hp} {a C : Addr} {fs : List (Str × V)} (h : ErAt H a C fs) (s : Same H H') : ErAt H' a C fs := h.elim fun d e => ⟨d, s _ _ e.1, s _ _ e.2⟩
/-- what is wished behind an error that is made and kept -/
theorem keepOne {C : Addr} {fs : List (Str × V)} {H1 : Hp} {Q : VK} (h : ∀ a H', Same H1 H' → ErAt H' a C fs → Q (.ref a) H') :
    ∀ d H', Same H1 H' → H1 d = none → H' d = some (.xd fs) → ∀ a, H' a = none → Q (.ref a) (upd H' a (Xo (.ref C) (some d) a)) := by
  intro d H' s _ e a na
  exact h a _ (overS s na) ⟨d, upd_same, (upd_ne (ne_of_none e na)).trans e⟩
section
variable {X : Cx}
/-- e.n of a kept error of any class -/
theorem pe_xoA {e : Expr} {te : TE} {pos : Pos} {n : Str} (he : PE X e te) (hb : attributeBase e n X.env (eval e X.env) = eval e X.env := by rfl) :
    PE X (.Attribute e n pos) (fun σ H Q => te σ H fun x H1 => ∃ (a C : Addr) (fs : List (Str × V)) (v : V), x = .ref a ∧ ErAt H1 a C fs ∧ Err X.K C ∧ PySem.W.findIn X.K (.ref C) n = some none ∧ fs.lookup n = some v ∧ Q v H1) := by
  constructor
  intro pins s σ H Q I h
  refine attr_of hb (thn (he.run pins s σ H _ I h) fun u s1 hh => ?_)
  obtain ⟨x, H1, I1, rx, a, C, fs, v, rfl, ⟨dd, ha, ea⟩, T, hno, l, q⟩ := hh
  cases rx
  obtain ⟨oe, vs, hg, hz, hd⟩ := xo_at I1.hok ha
  obtain ⟨mA, hns, hr⟩ := (show ObjOk X.prog X.w H1 s1.heap dd (.xd fs) from I1.hok dd _ ea)
  obtain ⟨od, ho, hl⟩ := lookIn_ns hns
  have hrn := hr n
  rw [l] at hrn
  obtain ⟨u, hu, ru⟩ := RelO.some_of hrn
  have nc : PySem.W.notCls oe = true := by
    unfold PySem.W.notCls
    rw [hd]
  have J : PySem.W.InstAt s1.heap a oe C (some od) := by
    refine ⟨hg, hz.1, nc, ?_⟩
    rw [hz.2]
    exact ho
  have fo := PySem.W.findObj_own (K := X.K) (C := C) (od := od) (name := n) (v := u) T.hdC hno rfl (by rw [hl, hu])
  exact HandSPX.exc_get I1.kIn J T.ga T.gg T.exC fo (handed_of ru) ⟨v, H1, I1.tok _, ru, q⟩
/-- isinstance of a kept error that has no dict -/
theorem call_isX0 : CallR X (.builtin "isinstance") (fun xs H Q => ∃ (a D : Addr) (c : V) (u : Value) (b : Bool), xs = [.ref a, c] ∧ H a = some (Xo (.ref D) none a) ∧ Err X.K D ∧ ClsV c u ∧ PySem.W.kitOne X.K (.ref D) u = some b ∧ Q (.bl b) H) := by
  intro pins s σ H xs us Q I r h
  obtain ⟨a, D, c, u, b, rfl, ha, T, cv, e, q⟩ := h
  obtain ⟨u1, u2, rfl, r1, r2⟩ := vals2 r
  cases r1
  have e2 := cv.eq r2
  subst e2
  obtain ⟨oe, vs, hg, hz, hdat⟩ := xo_at I.hok ha
  have nc : PySem.W.notCls oe = true := by
    unfold PySem.W.notCls
    rw [hdat]
  have J : PySem.W.InstAt s.heap a oe D none := by
    refine ⟨hg, hz.1, nc, ?_⟩
    rw [hz.2]
    trivial
  exact PySem.W.kia_one (kitx_err T) I.kIn ⟨oe, none, J⟩ e (fun z => nomatch z) fun tk => ⟨.bl b, H, I.tok tk, rfl, q⟩
/-- C(), C an own error class without own __init__ -/
theorem pmk_own0 {C : Addr} {bmB : List Value} {B newId initId : String} {x : Str} {p pos : Pos} (F : ExcBaseFacts B newId initId bmB) (q : PySem.W.excIn X.K C bmB newId = true) (gC : X.mg x = some (.ref C))
    (kC : PySem.W.keepIn X.K (.ref C) = true) (r : Raises X (.ref C)) (hg : Gl X x) (hdb : (x == ("__debug__" : Str)) = false := by decide) :
    PMk X (.Call (.Name x p) [] [] pos) (fun _ H Q => Q (.ref C) none H) := by
  intro pins s σ H Q I h
  refine wpAny_Call_Name_kw (ld_glob I hg gC ?_ hdb)
  refine PySem.W.callWith_K0 I.kIn kC ?_
  show wpAny _ _ (call (.ref C) []) _ _ _
  obtain ⟨bm, N, nm, qn, bs, hdct, sn, sub, ab, col, dd, k0, k1, k2, k3, k5, mN, hC, hN, hni, T⟩ := exc_obj I.kIn q
  refine wpAny_call_exc_subT F T hC hN hni (fun h' e hm => ?_) (by decide)
  exact mk_of I hm r h (I.hok.gone hm.new)
end
end So

/-! own errors made and kept: what is asked in one step -/
namespace So
open PySem PySem.Spec PyProof.Rows L2
section
variable {X : Cx}
theorem pe_weak {e : Expr} {t t' : TE} (h : PE X e t) (k : ∀ σ H Q, t' σ H Q → t σ H Q) : PE X e t' := ⟨fun pins s σ H Q I w => h.run pins s σ H Q I (k σ H Q w)⟩
theorem ps_weak {st : Stmt} {t t' : TS} (h : PS X st t) (k : ∀ D σ H, t' D σ H → t D σ H) : PS X st t' := ⟨fun pins s σ H D I w => h.run pins s σ H D I (k D σ H w)⟩
/-- what the top says of an error with two fields -/
structure TwoE (K : PySem.W.Frag) (mg : Str → Option Value) (x n1 n2 : Str) (C f : Addr) (fd : FuncData) : Prop where
  T : OexC K C
  iC : PySem.W.findIn K (.ref C) "__init__" = some (some (.ref f))
  tI : PySem.W.typeIn K (.ref f) = some (.type "function")
  mgC : mg x = some (.ref C)
  no1 : PySem.W.findIn K (.ref C) n1 = some none
  no2 : PySem.W.findIn K (.ref C) n2 = some none
  err : Err K C
  hb : Binds K fd ["self", n1, n2] []
def k2 {α : Type} : List α → List α → List α
  | [u], [z] => [u, z]
  | _, _ => []
def k3 {α : Type} : List α → List α → List α
  | [u], [y, z] => [u, z, y]
  | _, _ => []
theorem k2_rel {vs : List V} {us : List Value} {zs : List V} {ws : List Value} (a : Vals vs us) (b : Vals zs ws) : Vals (k2 vs zs) (k2 us ws) := by
  cases a with
  | nil => exact .nil
  | cons a1 a2 =>
    cases a2 with
    | cons _ _ => exact .nil
    | nil =>
      cases b with
      | nil => exact .nil
      | cons b1 b2 =>
        cases b2 with
        | nil => exact .cons a1 (.cons b1 .nil)
        | cons _ _ => exact .nil
theorem k3_rel {vs : List V} {us : List Value} {zs : List V} {ws : List Value} (a : Vals vs us) (b : Vals zs ws) : Vals (k3 vs zs) (k3 us ws) := by
  cases a with
  | nil => exact .nil
  | cons a1 a2 =>
    cases a2 with
    | cons _ _ => exact .nil
    | nil =>
      cases b with
      | nil => exact .nil
      | cons b1 b2 =>
        cases b2 with
        | nil => exact .nil
        | cons b3 b4 =>
          cases b4 with
          | nil => exact .cons a1 (.cons b3 (.cons b1 .nil))
          | cons _ _ => exact .nil
theorem kbn2 {K : PySem.W.Frag} {fd : FuncData} {n : Str} (h : ∀ (s : Shared) (u z : Value), BindsTo s fd ⟨[u], [(n, z)]⟩ [("self", u), (n, z)]) : KBn K fd ["self", n] 1 [n] k2 k2 :=
  ⟨fun s us ws _ h1 h2 => match us, ws, h1, h2 with | [u], [z], _, _ => h s u z, k2_rel⟩
theorem kbn3 {K : PySem.W.Frag} {fd : FuncData} {n1 n2 : Str} (h : ∀ (s : Shared) (u y z : Value), BindsTo s fd ⟨[u], [(n2, y), (n1, z)]⟩ [("self", u), (n1, z), (n2, y)]) : KBn K fd ["self", n1, n2] 1 [n2, n1] k3 k3 :=
  ⟨fun s us ws _ h1 h2 => match us, ws, h1, h2 with | [u], [y, z], _, _ => h s u y z, k3_rel⟩
variable {x n n1 n2 : Str} {C f : Addr} {fd : FuncData} {e e2 : Expr} {p pos kp kp2 : Pos} {i j : Nat}
theorem pe_new1 (hex : X.ex = []) (O : OneE X.K X.mg x n C f fd) (F : FnOk X.prog X.w X.K X.mg X.base CX0 1 f fd ["self", n] (spOneE C n)) (hr : Room 2 X.A) (hg : Gl X x) (ha : PA X [e] (tCons (tVar i) tNil))
    (hdb : (x == ("__debug__" : Str)) = false := by decide) (hst : starEach [e] X.env = (false, eval e X.env) :: starEach [] X.env := by rfl) (hpl : (backTo pos (starEach [] X.env)).any (·.1) = false := by rfl) :
    PE X (.Call (.Name x p) [e] [] pos) (fun σ H Q => ∃ v, σ[i]? = some (some v) ∧ ∀ a H', Same H H' → ErAt H' a C [(n, v)] → Q (.ref a) H') :=
  pe_weak (pe_ofMk hex (pmk_one O F hr hg ha hdb hst hpl)) fun _ _ Q0 ⟨v, q, h⟩ => ⟨v, q, mkOne (C := C) (n := n) (v := v) (vs := [v]) (Q := fun cls d H' => ∀ a, H' a = none → Q0 (.ref a) (upd H' a (Xo cls d a))) rfl (keepOne h)⟩
theorem pe_new1K (hex : X.ex = []) (O : OneE X.K X.mg x n C f fd) (F : FnOk X.prog X.w X.K X.mg X.base CX0 1 f fd ["self", n] (spOneE C n)) (kb : KBn X.K fd ["self", n] 1 [n] k2 k2) (hr : Room 2 X.A) (hg : Gl X x) (he : PE X e (tVar i))
    (hall : (backToKw pos (keywordEach [⟨some n, e, kp⟩] X.env)).all (·.1.isSome) = true := by rfl) (hks : (backToKw pos (keywordEach [⟨some n, e, kp⟩] X.env)).filterMap (·.1) = [n] := by rfl) (hdb : (x == ("__debug__" : Str)) = false := by decide)
    (hpl : ((backTo pos (starEach [] X.env)).any (·.1) || (backToKw pos (keywordEach [⟨some n, e, kp⟩] X.env)).any (·.1.isNone)) = false := by rfl) :
    PE X (.Call (.Name x p) [] [⟨some n, e, kp⟩] pos) (fun σ H Q => ∃ v, σ[i]? = some (some v) ∧ ∀ a H', Same H H' → ErAt H' a C [(n, v)] → Q (.ref a) H') :=
  pe_weak (pe_ofMk hex (pmk_oexK O.T O.iC O.tI F hr kb (fun _ _ _ _ _ _ _ h => h.elim) hg O.mgC (pk_cons he pk_nil) hall hks hdb hpl)) fun _ _ Q0 ⟨v, q, h⟩ => ⟨v, q, rfl, (mkOne (C := C) (n := n) (v := v) (vs := [v]) (Q := fun cls d H' => ∀ a, H' a = none → Q0 (.ref a) (upd H' a (Xo cls d a))) rfl (keepOne h)).2⟩
theorem pe_new2 (hex : X.ex = []) (O : TwoE X.K X.mg x n1 n2 C f fd) (F : FnOk X.prog X.w X.K X.mg X.base CX0 1 f fd ["self", n1, n2] (spTwoE C n1 n2)) (hr : Room 2 X.A) (hg : Gl X x) (ha : PA X [e, e2] (tCons (tVar i) (tCons (tVar j) tNil)))
    (hdb : (x == ("__debug__" : Str)) = false := by decide) (hst : starEach [e, e2] X.env = (false, eval e X.env) :: starEach [e2] X.env := by rfl) (hpl : (backTo pos (starEach [e2] X.env)).any (·.1) = false := by rfl) :
    PE X (.Call (.Name x p) [e, e2] [] pos) (fun σ H Q => ∃ v, σ[i]? = some (some v) ∧ ∃ u, σ[j]? = some (some u) ∧ ∀ a H', Same H H' → ErAt H' a C [(n2, u), (n1, v)] → Q (.ref a) H') :=
  pe_weak (pe_ofMk hex (pmk_oex O.T O.iC O.tI F hr O.hb .nil (fun _ _ _ _ _ _ _ h => h.elim) hg O.mgC ha hdb hst hpl)) fun _ _ Q0 ⟨v, q, u, q2, h⟩ => ⟨v, q, u, q2, by show 2 ≤ 1000; decide, mkTwo (C := C) (n1 := n1) (n2 := n2) (v1 := v) (v2 := u) (Q := fun cls d H' => ∀ a, H' a = none → Q0 (.ref a) (upd H' a (Xo cls d a))) (keepOne h)⟩
theorem pe_new2K (hex : X.ex = []) (O : TwoE X.K X.mg x n1 n2 C f fd) (F : FnOk X.prog X.w X.K X.mg X.base CX0 1 f fd ["self", n1, n2] (spTwoE C n1 n2)) (kb : KBn X.K fd ["self", n1, n2] 1 [n2, n1] k3 k3) (hr : Room 2 X.A) (hg : Gl X x) (he : PE X e (tVar i)) (he2 : PE X e2 (tVar j))
    (hall : (backToKw pos (keywordEach [⟨some n2, e2, kp2⟩, ⟨some n1, e, kp⟩] X.env)).all (·.1.isSome) = true := by rfl) (hks : (backToKw pos (keywordEach [⟨some n2, e2, kp2⟩, ⟨some n1, e, kp⟩] X.env)).filterMap (·.1) = [n2, n1] := by rfl) (hdb : (x == ("__debug__" : Str)) = false := by decide)
    (hpl : ((backTo pos (starEach [] X.env)).any (·.1) || (backToKw pos (keywordEach [⟨some n2, e2, kp2⟩, ⟨some n1, e, kp⟩] X.env)).any (·.1.isNone)) = false := by rfl) :
    PE X (.Call (.Name x p) [] [⟨some n2, e2, kp2⟩, ⟨some n1, e, kp⟩] pos) (fun σ H Q => ∃ u, σ[j]? = some (some u) ∧ ∃ v, σ[i]? = some (some v) ∧ ∀ a H', Same H H' → ErAt H' a C [(n2, u), (n1, v)] → Q (.ref a) H') :=
  pe_weak (pe_ofMk hex (pmk_oexK O.T O.iC O.tI F hr kb (fun _ _ _ _ _ _ _ h => h.elim) hg O.mgC (pk_cons he2 (pk_cons he pk_nil)) hall hks hdb hpl)) fun _ _ Q0 ⟨u, q, v, q2, h⟩ => ⟨u, q, v, q2, rfl, mkTwo (C := C) (n1 := n1) (n2 := n2) (v1 := v) (v2 := u) (Q := fun cls d H' => ∀ a, H' a = none → Q0 (.ref a) (upd H' a (Xo cls d a))) (keepOne h)⟩
theorem pe_new0 (hex : X.ex = []) {bmB : List Value} {B newId initId : String} (F : ExcBaseFacts B newId initId bmB) (q : PySem.W.excIn X.K C bmB newId = true) (gC : X.mg x = some (.ref C)) (kC : PySem.W.keepIn X.K (.ref C) = true) (r : Raises X (.ref C)) (hg : Gl X x)
    (hdb : (x == ("__debug__" : Str)) = false := by decide) :
    PE X (.Call (.Name x p) [] [] pos) (fun _ H Q => ∀ a H', Same H H' → H' a = some (Xo (.ref C) none a) → Q (.ref a) H') :=
  pe_weak (pe_ofMk hex (pmk_own0 F q gC kC r hg hdb)) fun _ H _ h => fun a ha => h a _ (overS (Same.refl H) ha) upd_same
end
end So

/-! own `in` and `not in`; min(xs, default=d); a walk over what is a list or a tuple -/
namespace So
open PySem PySem.Spec PyProof.Rows L2
section
variable {X : Cx} {CX : CXT} {k : Nat} {C f : Addr} {fd : FuncData} {ps : List Str} {sp : Sp} {E : XK}
/-- what x in o asks, o of an own class with __contains__; g: the answer as it is, or turned about -/
def rInO (C : Addr) (sp : Sp) (E : XK) (g : Bool → Bool) : R2 := fun x y H Q => ∃ a dx fs, y = .ref a ∧ H a = some (.ins C dx fs) ∧ sp [.ref a, x] H (fun v H' => ∃ b, v = .bl b ∧ Q (.bl (g b)) H') E
theorem op_inO (F : FnOk X.prog X.w X.K X.mg X.base CX k f fd ps sp) (hs : PySem.W.findIn X.K (.ref C) "__contains__" = some (some (.ref f))) (hf : PySem.W.isFn X.K (.ref f) = true) (hb : Binds X.K fd ps []) (hx : Passes CX X E) (hr : Room k X.A) :
    OpR X (compareOp .In) (rInO C sp E id) := by
  intro pins s σ H x y v u Q I rx ry h
  obtain ⟨a, dx, fs, rfl, ha, q⟩ := h
  cases ry
  obtain ⟨mA, J, _⟩ := ins_get I.hok ha
  obtain ⟨od, J, _⟩ := J.look
  obtain ⟨m, hF⟩ := I.fr
  refine PySem.W.in_K hF I.ok.mod.kin J hs hf (wpAny_mono (run_eq (dx := dx) (fs := fs) F hb hx hr rfl I rx q) (fun w s' z => ?_) fun _ _ z => z)
  obtain ⟨b, H', rfl, I', q'⟩ := z
  exact wpAny_truthy_bool ⟨.bl b, H', I', rfl, q'⟩
theorem op_notInO (F : FnOk X.prog X.w X.K X.mg X.base CX k f fd ps sp) (hs : PySem.W.findIn X.K (.ref C) "__contains__" = some (some (.ref f))) (hf : PySem.W.isFn X.K (.ref f) = true) (hb : Binds X.K fd ps []) (hx : Passes CX X E) (hr : Room k X.A) :
    OpR X (compareOp .NotIn) (rInO C sp E not) := by
  intro pins s σ H x y v u Q I rx ry h
  obtain ⟨a, dx, fs, rfl, ha, q⟩ := h
  cases ry
  obtain ⟨mA, J, _⟩ := ins_get I.hok ha
  obtain ⟨od, J, _⟩ := J.look
  obtain ⟨m, hF⟩ := I.fr
  refine PySem.W.notIn_K hF I.ok.mod.kin J hs hf (wpAny_mono (run_eq (dx := dx) (fs := fs) F hb hx hr rfl I rx q) (fun w s' z => ?_) fun _ _ z => z)
  obtain ⟨b, H', rfl, I', q'⟩ := z
  exact wpAny_truthy_bool ⟨.bl (!b), H', I', rfl, q'⟩
/-- a walk by one of two roads -/
theorem pi_or {tg e : Expr} {w1 w2 : TI} (h1 : PI X tg e w1) (h2 : PI X tg e w2) : PI X tg e (fun σ H R => w1 σ H R ∨ w2 σ H R) := by
  refine ⟨fun pins s σ H R I h => ?_⟩
  rcases h with h | h
  · exact h1.run pins s σ H R I h
  · exact h2.run pins s σ H R I h
end
end So
namespace So
open PySem PySem.Spec PyProof.Rows L2
theorem foldl_min : ∀ (ns : List Int) (n : Int), (ns.foldl min n ∈ n :: ns) ∧ (∀ z ∈ n :: ns, ns.foldl min n ≤ z)
  | [], n => ⟨List.mem_cons_self, fun z hz => by rw [List.mem_singleton.mp hz]; exact Int.le_refl _⟩
  | k :: r, n => by
    obtain ⟨h1, h2⟩ := foldl_min r (min n k)
    have e : min n k ≤ n ∧ min n k ≤ k ∧ (min n k = n ∨ min n k = k) := by omega
    refine ⟨?_, fun z hz => ?_⟩
    · rw [List.foldl_cons]
      rcases List.mem_cons.mp h1 with h | h
      · rw [h]
        rcases e.2.2 with q | q <;> rw [q] <;> simp
      · exact List.mem_cons_of_mem _ (List.mem_cons_of_mem _ h)
    · rw [List.foldl_cons]
      have h0 := h2 (min n k) List.mem_cons_self
      rcases List.mem_cons.mp hz with h | h
      · rw [h]
        omega
      · rcases List.mem_cons.mp h with h | h
        · rw [h]
          omega
        · exact h2 z (List.mem_cons_of_mem _ h)
theorem alike_ints (ns : List Int) : PySem.W.AlikeAll (ns.map PyData.int) := by
  refine ⟨fun x hx y hy => ?_, fun x hx => ?_⟩
  · obtain ⟨i, _, rfl⟩ := List.mem_map.mp hx
    obtain ⟨j, _, rfl⟩ := List.mem_map.mp hy
    rfl
  · obtain ⟨i, _, rfl⟩ := List.mem_map.mp hx
    intro h
    cases h
theorem depth_ints0 : ∀ ns : List Int, PyData.depthAll (ns.map PyData.int) = 0
  | [] => rfl
  | n :: r => by simp [PyData.depthAll, PyData.depth, depth_ints0 r]
section
variable {X : Cx}
theorem dpi {K : PySem.W.Frag} {H : Hp} : ∀ ns : List Int, DpAll K H (ns.map V.int) (ns.map PyData.int)
  | [] => .nil
  | n :: r => .cons (.int n) (dpi r)
/-- min(xs, default=d): ints -/
theorem pe_minDef {e d : Expr} {p pos kp : Pos} {ta td : TA} (hc : X.calm = true) (hu : X.A.units + 64 < cLine) (hg : Gl X "min") (hm : X.mg "min" = none) (ha : PA X [e] ta) (hk : PK X [⟨some "default", d, kp⟩] td)
    (he : backTo pos (starEach [e] X.env) = (false, eval e X.env) :: backTo pos (starEach [] X.env) := by rfl) (hpl : (backTo pos (starEach [e] X.env)).any (·.1) = false := by rfl)
    (hall : (backToKw pos (keywordEach [⟨some "default", d, kp⟩] X.env)).all (·.1.isSome) = true := by rfl) (hkw : (backToKw pos (keywordEach [⟨some "default", d, kp⟩] X.env)).any (·.1.isNone) = false := by rfl)
    (hks : (backToKw pos (keywordEach [⟨some "default", d, kp⟩] X.env)).filterMap (·.1) = [("default" : Str)] := by rfl) :
    PE X (.Call (.Name "min" p) [e] [⟨some "default", d, kp⟩] pos) (fun σ H Q => ta σ H fun xs H1 => td σ H1 fun ys H2 => ∃ l ns y, xs = [.ref l] ∧ ys = [y] ∧ SqL X.K H2 l (ns.map V.int) ∧ (ns = [] → Q y H2) ∧ (∀ m, m ∈ ns → (∀ z ∈ ns, m ≤ z) → Q (.int m) H2)) := by
  refine ⟨fun pins s σ H Q I h => ?_⟩
  refine wpAny_Call_Name_kw (ld_blt I hg hm (show bootBuiltins "min" = some (.builtin "min") by decide +kernel) (PyProof.Rows.callWith_kw (thn (ha.run pos pins s σ H _ I h) fun us s1 ⟨xs, H1, I1, r1, q1⟩ => ?_) he hpl hall hkw))
  refine thn (hk.run pos pins s1 σ H1 _ I1 q1) fun ws s2 ⟨ys, H2, I2, r2, l, ns, y, ex, ey, hs, q0, q1⟩ => ?_
  subst ex ey
  rw [Vals.ref1 r1, hks]
  obtain ⟨u, rfl, ru⟩ := vals1 r2
  obtain ⟨its, rv, hl, _⟩ := I2.list hs
  have hd : DpAll X.K H2 (ns.map V.int) (ns.map PyData.int) := dpi ns
  obtain ⟨as, rd⟩ := Dp.readsAll I2 (ns.map PyData.int) (ns.map V.int) its hd rv
  refine PySem.W.min_list_default (I2.ok.hd hc) hl.isList (by simpa using rd) (alike_ints ns) (by rw [depth_ints0]; omega) (fun e0 h' tk k => ?_) (fun z zs i v h' tk bs e0 hv rz k => ?_)
  · exact ⟨y, H2, I2.kept k, ru, q0 (List.map_eq_nil_iff.mp e0)⟩
  · obtain ⟨n, r, rfl⟩ : ∃ n r, ns = n :: r := by
      cases ns with
      | nil => cases e0
      | cons n r => exact ⟨n, r, rfl⟩
    rw [List.map_cons] at e0
    injection e0 with e1 e2
    subst e1 e2
    rw [PySem.W.minD_ints] at rz
    cases rz with
    | int _ t =>
      obtain ⟨m1, m2⟩ := foldl_min r n
      exact ⟨.int _, H2, I2.kept k, ⟨t, rfl⟩, q1 _ m1 m2⟩
end
end So

namespace K13
open PySem PySem.Spec PyProof.Rows L2 So
abbrev sWith : Stmt := topS 49
abbrev sLInit : Stmt := inClass (topS 50) 0
theorem scWith : FnScope ["tool", "moments", "moment", "later"] ["tool", "moments"] (defScope sWith) := ⟨rfl, rfl, rfl, by decide +kernel, rfl, by decide +kernel, by decide +kernel⟩
theorem scLInit : FnScope ["self", "begun", "tool"] ["self", "begun"] (defScope sLInit) := ⟨rfl, rfl, rfl, by decide +kernel, rfl, by decide +kernel, by decide +kernel⟩
/-- a whole number put into an ascending list -/
def ins1 (k : Int) : List Int → List Int
  | [] => [k]
  | x :: r => if k < x then k :: x :: r else if k = x then x :: r else x :: ins1 k r
/-- the numbers of a list, each once, ascending -/
def srt (l : List Int) : List Int := l.foldr ins1 []
theorem mem_ins1 {k j : Int} : ∀ {l : List Int}, j ∈ ins1 k l ↔ j = k ∨ j ∈ l
  | [] => by simp [ins1]
  | x :: r => by
    unfold ins1
    split
    · simp
    · split
      · rename_i e
        subst e
        simp
      · rw [List.mem_cons, mem_ins1 (l := r), List.mem_cons]
        constructor
        · rintro (h | h | h)
          · exact .inr (.inl h)
          · exact .inl h
          · exact .inr (.inr h)
        · rintro (h | h | h)
          · exact .inr (.inl h)
          · exact .inl h
          · exact .inr (.inr h)
theorem asc_ins1 {k : Int} : ∀ {l : List Int}, l.Pairwise (· < ·) → (ins1 k l).Pairwise (· < ·)
  | [], _ => by simp [ins1]
  | x :: r, h => by
    rw [List.pairwise_cons] at h
    unfold ins1
    split
    · rename_i c
      refine List.pairwise_cons.mpr ⟨fun j hj => ?_, List.pairwise_cons.mpr h⟩
      rcases List.mem_cons.mp hj with e | e
      · omega
      · have := h.1 j e
        omega
    · split
      · exact List.pairwise_cons.mpr h
      · rename_i c1 c2
        refine List.pairwise_cons.mpr ⟨fun j hj => ?_, asc_ins1 h.2⟩
        rcases mem_ins1.mp hj with e | e
        · omega
        · exact h.1 j e
theorem len_ins1 {k : Int} : ∀ {l : List Int}, (ins1 k l).length ≤ l.length + 1
  | [] => by simp [ins1]
  | x :: r => by
    have := len_ins1 (k := k) (l := r)
    unfold ins1
    split
    · simp
    · split
      · simp
      · simp only [List.length_cons]
        omega
theorem srt_asc : ∀ l : List Int, (srt l).Pairwise (· < ·)
  | [] => .nil
  | x :: r => asc_ins1 (srt_asc r)
theorem srt_mem {k : Int} : ∀ {l : List Int}, k ∈ srt l ↔ k ∈ l
  | [] => by simp [srt]
  | x :: r => by
    show k ∈ ins1 x (srt r) ↔ _
    rw [mem_ins1, srt_mem (l := r), List.mem_cons]
theorem srt_len : ∀ l : List Int, (srt l).length ≤ l.length
  | [] => by simp [srt]
  | x :: r => by
    have h1 := srt_len r
    have h2 : (ins1 x (srt r)).length ≤ (srt r).length + 1 := len_ins1
    show (ins1 x (srt r)).length ≤ r.length + 1
    omega
theorem srt_one {l ns : List Int} (h : l.Pairwise (· < ·)) (hm : ∀ k, k ∈ l ↔ k ∈ ns) : l = srt ns := pairwise_ext h (srt_asc ns) fun k => (hm k).trans srt_mem.symm
/-- what more the module's names say, to lives -/
structure WordsL (mg : Str → Option Value) : Prop where
  sorted : mg "sorted" = none
  set : mg "set" = none
  max : mg "max" = none
  min : mg "min" = none
  tuple : mg "tuple" = none
section
variable {P : Program} {w : World} {K : PySem.W.Frag} {mg : Str → Option Value} {base : Heap}
/-- with_first, of a name and of beginnings -/
def spWith (K : PySem.W.Frag) : Sp := fun vs H Q _ => ∃ (z : Str) (l : Addr) (ns : List Int), vs = [.str z, .ref l] ∧ isName z = true ∧ z.length ≤ 2000 ∧ (SqL K H l (ns.map V.int) ∨ SqT K H l (ns.map V.int)) ∧ ns.length < 64 ∧ (∀ n ∈ ns, gBeg (.int n) = true) ∧
  ∀ (t : Addr) (later : List Int) (H' : Hp), Same H H' → later.Pairwise (· < ·) → (∀ k, k ∈ later ↔ k ∈ ns) → H' t = some (.tup ((0 :: later).map V.int)) → Q (.ref t) H'
theorem sq_same {l : Addr} {xs : List V} {H H' : Hp} (h : SqL K H l xs ∨ SqT K H l xs) (s : Same H H') : SqL K H' l xs ∨ SqT K H' l xs := by
  rcases h with h | h
  · exact .inl (h.ext s)
  · exact .inr (h.ext s)
theorem ok_with {CN CM CS f fC : Addr} {fd fdC : FuncData} (F : Fun K "with_first" "with_first" sWith f fd) (L : WordsL mg) (FC : Fun K "check_form" "check_form" sCheck fC fdC) (bC : Binds K fdC ["value", "form"] []) (gC : mg "check_form" = some (.ref fC))
    (GC : FnOk P w K mg base (L2.CX P w) 3 fC fdC ["value", "form"] (spCheck CN CM CS)) : FnOk P w K mg base CX0 4 f fd ["tool", "moments"] (spWith K) := by
  refine F.ok scWith (fun vs H Q E h => ?_) (fun cdv A outer s H vs Q E hr h => ?_)
  · obtain ⟨z, l, ns, rfl, _⟩ := h
    rfl
  · obtain ⟨z, l, ns, rfl, hz, hzl, hl, h64, hb, q⟩ := h
    refine ⟨_, pss_cons (ps_expr (pe_call GC hr (by rfl) gC FC.kp bC .nil passNo (pa_cons (pv 0) (pa_cons pe_str pa_nil))))
      (pss_cons (ps_for PassesOwn.never rfl (pi_or (pi_list (pv 1)) (pi_tup (pv 1))) (pg_name (i := 2) scWith.nd rfl (Or.inl rfl)) (pss_one (ps_expr (pe_call GC hr (by rfl) gC FC.kp bC .nil passNo (pa_cons (pv 2) (pa_cons pe_str pa_nil))))))
      (pss_cons (ps_set (i := 3) scWith.nd rfl (.inl rfl) (pe_callB (cr_sortedSet rfl) (by rfl) L.sorted (by decide +kernel) (pa_cons (pe_callTy (cr_setI rfl) (by rfl) L.set (by decide +kernel) (pa_cons (pv 1) pa_nil)) pa_nil)))
      (pss_one (ps_ret (pe_tup (pa_cons pe_int (StX.pa_star (pv 3) pa_nil))))))), ?_⟩
    refine ⟨_, rfl, _, "str", _, _, _, _, rfl, .str z hzl, .inl ⟨rfl, rfl, rfl, rfl⟩, fun _ H1 s1 => ?_, fun g _ _ _ _ => by rw [show gNam (.str z) = true from hz] at g; cases g⟩
    obtain ⟨J, wJ, go⟩ : ∃ J, Walk J (ns.map V.int).length (fun H' => Same H H') (YAt (ns.map V.int)) ∧ ∀ R : It → Hp → Prop, R J H1 → (iList K (tVar 1) [some (.str z), some (.ref l), none, none] H1 R ∨ iTup K (tVar 1) [some (.str z), some (.ref l), none, none] H1 R) := by
      rcases hl with hl | hl
      · exact ⟨_, walk_list.mono (fun _ s => hl.ext s) (fun _ _ _ _ _ _ y => y), fun R r => .inl ⟨_, rfl, l, rfl, ⟨_, hl.ext s1⟩, r⟩⟩
      · exact ⟨_, walk_tup.mono (fun _ s => hl.ext s) (fun _ _ _ _ _ _ y => y), fun R r => .inr ⟨_, rfl, l, rfl, ⟨_, hl.ext s1⟩, r⟩⟩
    refine go _ (for_it wJ (fun i σ H' => (∃ v2, σ = [some (.str z), some (.ref l), v2, none]) ∧ Same H H') ⟨⟨_, rfl⟩, s1⟩ (fun _ _ _ _ y => y.2) ?_ ?_)
    · rintro i x σ H2 H3 hi ⟨⟨v2, rfl⟩, s2⟩ ⟨rfl, hx⟩
      obtain ⟨n, hn, rfl⟩ : ∃ n, n ∈ ns ∧ x = .int n := by
        have := List.mem_of_getElem? hx
        obtain ⟨n, h1, h2⟩ := List.mem_map.mp this
        exact ⟨n, h1, h2.symm⟩
      refine ⟨_, rfl, _, "int", _, _, _, _, rfl, .int n, .inr (.inr (.inl ⟨rfl, rfl, rfl, rfl⟩)), fun _ H4 s4 => ⟨⟨_, rfl⟩, s2.trans s4⟩, fun g _ _ _ _ => by rw [hb n hn] at g; cases g⟩
    · rintro σ H2 ⟨⟨v2, rfl⟩, s2⟩
      refine ⟨_, rfl, l, ns, rfl, sq_same hl s2, h64, fun p c hp hc => ⟨p, _, c, rfl, upd_same, Nat.lt_of_le_of_lt hc h64, fun later p2 hw hm hlen hp2 => ?_⟩⟩
      refine ⟨_, rfl, p2, later.map V.int, rfl, .inr (SqL.of upd_same), ?_⟩
      refine ⟨?_, fun t ht => q t later _ (((s2.trans (same_upd0 hp)).trans (same_upd0 hp2)).trans (same_upd0 ht)) hw (fun k => (hm k).trans ⟨of_decide_eq_true, decide_eq_true⟩) ?_⟩
      · rw [List.append_nil, List.length_cons, List.length_map, hlen]
        have : c < 64 := Nat.lt_of_le_of_lt hc h64
        have := sizeLine_eq
        omega
      · rw [upd_same, List.append_nil]
        rfl

/-! ### the lives -/
/-- at a stand the lives in which a tool has the beginnings F -/
def LvAt (C : Addr) (H : Hp) (a : Addr) (F : Str → Option (List Int)) : Prop := ∃ (dx d : Addr) (kvs : List (Key × V)), H a = some (.ins C dx [("_begun", .ref d)]) ∧ H d = some (.dK kvs) ∧
  (∀ z, F z = none → valV kvs (.inr z) = none) ∧ ∀ z ns, F z = some ns → ∃ t, valV kvs (.inr z) = some (.ref t) ∧ H t = some (.tup (ns.map V.int))
theorem LvAt.same {C : Addr} {H H' : Hp} {a : Addr} {F : Str → Option (List Int)} (h : LvAt C H a F) (s : Same H H') : LvAt C H' a F := by
  obtain ⟨dx, d, kvs, h1, h2, h3, h4⟩ := h
  refine ⟨dx, d, kvs, s _ _ h1, s _ _ h2, h3, fun z ns e => ?_⟩
  obtain ⟨t, e1, e2⟩ := h4 z ns e
  exact ⟨t, e1, s _ _ e2⟩
theorem LvAt.off {C p : Addr} {H H' : Hp} {a : Addr} {F : Str → Option (List Int)} {vs : List V} (h : LvAt C H a F) (s : Off p H H') (hp : H p = some (.lst vs)) : LvAt C H' a F := by
  obtain ⟨dx, d, kvs, h1, h2, h3, h4⟩ := h
  refine ⟨dx, d, kvs, s _ _ (ne_of h1 hp (fun z => nomatch z)) h1, s _ _ (ne_of h2 hp (fun z => nomatch z)) h2, h3, fun z ns e => ?_⟩
  obtain ⟨t, e1, e2⟩ := h4 z ns e
  exact ⟨t, e1, s _ _ (ne_of e2 hp (fun z => nomatch z)) e2⟩
/-- a dict of beginnings: what Lives is made of -/
def BgAt (K : PySem.W.Frag) (H : Hp) (d : Addr) (F : Str → Option (List Int)) : Prop := ∃ (kvs : List (Key × V)) (ks : List Str), H d = some (.dK kvs) ∧ kvs.map (·.1) = ks.map Sum.inr ∧ ks.length < 64 ∧ (∀ z, z ∈ ks ↔ (F z).isSome = true) ∧
  (∀ z ∈ ks, isName z = true ∧ z.length ≤ 2000) ∧ ∀ z ns, F z = some ns → ∃ l, valV kvs (.inr z) = some (.ref l) ∧ (SqL K H l (ns.map V.int) ∨ SqT K H l (ns.map V.int)) ∧ ns.length < 64 ∧ (∀ n ∈ ns, gBeg (.int n) = true)
theorem BgAt.same {d : Addr} {H H' : Hp} {F : Str → Option (List Int)} (h : BgAt K H d F) (s : Same H H') : BgAt K H' d F := by
  obtain ⟨kvs, ks, h1, h2, h3, h4, h5, h6⟩ := h
  refine ⟨kvs, ks, s _ _ h1, h2, h3, h4, h5, fun z ns e => ?_⟩
  obtain ⟨l, e1, e2, e3⟩ := h6 z ns e
  exact ⟨l, e1, sq_same e2 s, e3⟩
/-- what the top says of the class Lives, at C -/
structure Lvs (K : PySem.W.Frag) (mg : Str → Option Value) (C : Addr) : Prop where
  cl : Cls K C
  nB : NoAttr K C "_begun"
  mgC : mg "Lives" = some (.ref C)
  no : ∀ T, T ∈ ["tuple", "str", "NoneType", "int", "bool", "list", "dict"] → PySem.W.kitOne K (.type T) (.ref C) = some false ∧ PySem.W.notFirst K C (.type T) = true
theorem dc_it {J : It} {n : Nat} {G : Hp → Prop} {Y : Nat → Hp → V → Hp → Prop} (w : Walk J n G Y) {g : TG} {tt : TT} {tk tv : TE} {vs : List Nat} {σ : L2.St} {H1 : Hp} {D : Addr} {Qd : Hp → Prop} (Pv : Nat → Hp → Prop) (h0 : Pv 0 (upd H1 D (.dK []))) (hG : ∀ i H, i ≤ n → Pv i H → G H)
    (hs : ∀ i x H H', i < n → Pv i H → Y i H x H' → g x (wipe σ vs) H' fun σ2 H2 => wipe σ2 vs = wipe σ vs ∧ tt σ2 H2 fun b H3 =>
      if b = true then tk σ2 H3 fun y H4 => tv σ2 H4 fun z H5 => ∃ kvs k, y = kV k ∧ H5 D = some (.dK kvs) ∧ kvs.length < sizeLine ∧ Pv (i + 1) (upd H5 D (.dK (putK kvs k z))) else Pv (i + 1) H3) (hd : ∀ H, Pv n H → Qd H) :
    ∃ W : Nat → Nat → Hp → Prop, (∃ m, W 0 m (upd H1 D (.dK []))) ∧ ∀ i m H, W i m H →
      (J.stop i H ∧ Qd H) ∨ (J.go i H ∧ ∃ Nx : Hp → Prop, (∀ H', Nx H' → ∃ m', m' < m ∧ W (i + 1) m' H') ∧ ∀ x H', J.yld i H x H' → g x (wipe σ vs) H' fun σ2 H2 => wipe σ2 vs = wipe σ vs ∧ tt σ2 H2 fun b H3 =>
        if b = true then tk σ2 H3 fun y H4 => tv σ2 H4 fun z H5 => ∃ kvs k, y = kV k ∧ H5 D = some (.dK kvs) ∧ kvs.length < sizeLine ∧ Nx (upd H5 D (.dK (putK kvs k z))) else Nx H3) := by
  refine ⟨fun i m H => m = n - i ∧ i ≤ n ∧ Pv i H, ⟨n, by simp, Nat.zero_le _, h0⟩, ?_⟩
  rintro i m H ⟨rfl, hi, p⟩
  have q := hG i H hi p
  by_cases hlt : i < n
  · exact .inr ⟨w.goes i H hlt q, Pv (i + 1), fun H' p' => ⟨n - (i + 1), by omega, rfl, hlt, p'⟩, fun x H' y => hs i x H H' hlt p (w.yields i H x H' hlt q y)⟩
  · have e : i = n := by omega
    subst e
    exact .inl ⟨w.stops H q, hd H p⟩
/-- Lives.__init__ of such a dict -/
def spLInit (K : PySem.W.Frag) (C : Addr) : Sp := fun vs H Q _ => ∃ (x dx d : Addr) (F : Str → Option (List Int)), vs = [.ref x, .ref d] ∧ H x = some (.ins C dx []) ∧ BgAt K H d F ∧ ∀ H', Off x H H' → LvAt C H' x (fun z => (F z).map fun l => 0 :: srt l) → Q .non H'
theorem ok_linit {f C fW : Addr} {fd fdW : FuncData} (F : Fun K "__init__" "Lives.__init__" sLInit f fd) (T : Lvs K mg C) (L : WordsL mg) (FW : Fun K "with_first" "with_first" sWith fW fdW) (bW : Binds K fdW ["tool", "moments"] []) (gW : mg "with_first" = some (.ref fW))
    (GW : FnOk P w K mg base CX0 4 fW fdW ["tool", "moments"] (spWith K)) : FnOk P w K mg base CX0 5 f fd ["self", "begun"] (spLInit K C) := by
  refine F.ok scLInit (fun vs H Q E h => ?_) (fun cdv A outer s H vs Q E hr h => ?_)
  · obtain ⟨x, dx, d, F, rfl, _⟩ := h
    rfl
  · obtain ⟨x, dx, d, Fn, rfl, hx, hb, q⟩ := h
    obtain ⟨kvs, ks, hd, hk, h64, hF, hnm, hv⟩ := id hb
    refine ⟨_, pss_one (ps_fld (pv 0) (pe_dc (own := [("tool", 2)]) (g := gName 2) (tt := tYes) rfl scLInit.nd (pi_list (pe_callB (call_sortedD rfl) (by rfl) L.sorted (by decide +kernel) (pa_cons (pv 1) pa_nil))) (blkOk_by (N := ["self", "begun", "tool"]) (sc := defScope sLInit) (by decide +kernel))
        (fun _ _ _ _ _ => pg_name (i := 2) scLInit.nd rfl (Or.inl rfl)) (fun _ _ _ _ _ => pts_nil) (fun _ _ _ _ _ => pv 2)
        (fun _ _ _ _ _ => pe_call GW hr (by rfl) gW FW.kp bW .nil pass0 (pa_cons (pv 2) (pa_cons (pe_dget (hu_of hr) (pv 1) (pv 2) (fun _ _ => rfl)) pa_nil)))) rfl), ?_⟩
    refine ⟨_, rfl, d, kvs, ks, rfl, .inl hd, hk, h64, fun ys p hp hsrt hpn => ⟨p, rfl, ⟨_, SqL.of upd_same⟩, fun D hD => ?_⟩⟩
    have sp : Same H (upd H p (.lst (ys.map V.str))) := same_upd0 hpn
    have hylen : ys.length = ks.length := hp.length_eq
    refine dc_it walk_list (fun i H' => Same (upd H p (.lst (ys.map V.str))) H' ∧ ∃ kvs' : List (Key × V), H' D = some (.dK kvs') ∧ kvs'.length ≤ i ∧ (∀ z, z ∉ ys.take i → valV kvs' (.inr z) = none) ∧
      ∀ z ns, z ∈ ys.take i → Fn z = some ns → ∃ t, valV kvs' (.inr z) = some (.ref t) ∧ H' t = some (.tup ((0 :: srt ns).map V.int))) ⟨same_upd0 hD, [], upd_same, Nat.le_refl _, fun _ _ => rfl, fun z ns hz => by simp at hz⟩ (fun _ _ _ y => SqL.of (y.1 _ _ upd_same)) ?_ ?_
    · rintro i v H2 H3 hi ⟨s2, kvs', hD2, hl2, n2, y2⟩ ⟨rfl, hv2⟩
      obtain ⟨z, hz, rfl⟩ : ∃ z, ys[i]? = some z ∧ v = .str z := by
        rw [List.getElem?_map] at hv2
        cases e : ys[i]? with
        | none => rw [e] at hv2; cases hv2
        | some z => rw [e] at hv2; exact ⟨z, rfl, (Option.some.inj hv2).symm⟩
      have hzk : z ∈ ks := hp.mem_iff.mp (List.mem_of_getElem? hz)
      obtain ⟨hn1, hn2⟩ := hnm z hzk
      obtain ⟨ns, hns⟩ := Option.isSome_iff_exists.mp ((hF z).mp hzk)
      obtain ⟨l, hl1, hl3, hl4, hl5⟩ := hv z ns hns
      have sA := sp.trans s2
      have hi' : i < ks.length := by rw [List.length_map, hylen] at hi; exact hi
      refine ⟨rfl, _, rfl, _, rfl, _, rfl, _, rfl, d, _, rfl, .inl ⟨kvs, .inr z, .inl (sA _ _ hd), rfl, hl1.symm⟩, ?_⟩
      refine ⟨z, l, ns, rfl, hn1, hn2, sq_same hl3 sA, hl4, hl5, fun t later H4 s4 hw hm ht => ⟨kvs', .inr z, rfl, s4 _ _ hD2, Nat.lt_of_le_of_lt hl2 (by have := sizeLine_eq; omega), ?_⟩⟩
      have el : later = srt ns := srt_one hw hm
      subst el
      have nD : D ≠ t := fun z => by rw [← z, s4 _ _ hD2] at ht; cases ht
      refine ⟨fun b o e => ?_, _, upd_same, Nat.le_trans (length_putK _ _ _) (by omega), fun w hw2 => ?_, fun w ws hw2 hws => ?_⟩
      · rw [upd_ne (ne_of_none e hD)]
        exact s4 _ _ (s2 _ _ e)
      · rw [List.take_add_one, hz] at hw2
        simp only [Option.toList, List.mem_append, List.mem_singleton, not_or] at hw2
        rw [valV_put, if_neg (fun y => hw2.2 (Sum.inr.inj y))]
        exact n2 w hw2.1
      · rw [valV_put]
        by_cases ewz : w = z
        · subst ewz
          rw [hns] at hws
          cases hws
          exact ⟨t, if_pos rfl, (upd_ne (Ne.symm nD)).trans ht⟩
        · rw [List.take_add_one, hz] at hw2
          simp only [Option.toList, List.mem_append, List.mem_singleton] at hw2
          obtain ⟨t2, e1, e2⟩ := y2 w ws (hw2.resolve_right ewz) hws
          exact ⟨t2, (if_neg (fun y => ewz (Sum.inr.inj y))).trans e1, (upd_ne (fun y => by rw [y, hD2] at e2; cases e2)).trans (s4 _ _ e2)⟩
    · rintro H2 ⟨s2, kvs', hD2, hl2, n2, y2⟩
      have sA := sp.trans s2
      refine ⟨_, rfl, x, C, dx, [], rfl, sA _ _ hx, T.cl, T.nB, (by show 0 < 1000; decide), ?_⟩
      have nDx : D ≠ x := fun z => by rw [z, sA _ _ hx] at hD2; cases hD2
      have et : ys.take (ys.map V.str).length = ys := by rw [List.length_map]; exact List.take_length
      rw [et] at n2 y2
      refine q _ (fun b o n e => (upd_ne n).trans (sA _ _ e)) ⟨dx, D, kvs', upd_same, (upd_ne nDx).trans hD2, fun z hz => n2 z fun hzy => ?_, fun z ns hz => ?_⟩
      · have := (hF z).mp (hp.mem_iff.mp hzy)
        have hz : (Fn z).map (fun l => 0 :: srt l) = none := hz
        cases e : Fn z with
        | none => rw [e] at this; cases this
        | some a => rw [e] at hz; cases hz
      · have hz : (Fn z).map (fun l => 0 :: srt l) = some ns := hz
        cases e : Fn z with
        | none => rw [e] at hz; cases hz
        | some a =>
          rw [e] at hz
          cases hz
          have hzy : z ∈ ys := hp.mem_iff.mpr ((hF z).mpr (by rw [e]; rfl))
          obtain ⟨t, e1, e2⟩ := y2 z a hzy e
          exact ⟨t, e1, (upd_ne (fun y => by rw [y, sA _ _ hx] at e2; cases e2)).trans e2⟩
end
end K13

namespace K13
open PySem PySem.Spec PyProof.Rows L2 So
abbrev sBeg : Stmt := inClass (topS 50) 3
abbrev sLast : Stmt := inClass (topS 50) 5
abbrev sCont : Stmt := inClass (topS 50) 6
theorem scBeg : FnScope ["self", "tool"] ["self", "tool"] (defScope sBeg) := ⟨rfl, rfl, rfl, by decide +kernel, rfl, by decide +kernel, by decide +kernel⟩
theorem scLast : FnScope ["self", "life", "tool", "beginning", "later"] ["self", "life"] (defScope sLast) := ⟨rfl, rfl, rfl, by decide +kernel, rfl, by decide +kernel, by decide +kernel⟩
theorem scCont : FnScope ["self", "life", "tool", "beginning"] ["self", "life"] (defScope sCont) := ⟨rfl, rfl, rfl, by decide +kernel, rfl, by decide +kernel, by decide +kernel⟩
/-- the beginnings by what is given for a tool -/
def fB (F : Str → Option (List Int)) : V → Option (List Int)
  | .str z => F z
  | _ => none
/-- the beginnings as they are told -/
def FOk (F : Str → Option (List Int)) : Prop := ∀ z ns, F z = some ns → ∃ l : List Int, ns = 0 :: l ∧ l.length < 64 ∧ (∀ n ∈ l, gBeg (.int n) = true) ∧ l.Pairwise (· < ·)
/-- what is given for a life: a pair of two values, or no pair -/
def LyAt (H : Hp) (y : V) (o : Option (V × V)) : Prop :=
  (o = none ∧ ∃ T, Gv H y T ∧ (T = "tuple" → ∃ p xs, y = .ref p ∧ H p = some (.tup xs) ∧ xs.length ≠ 2)) ∨ ∃ (u x : V) (p : Addr) (T1 T2 : String), o = some (u, x) ∧ y = .ref p ∧ H p = some (.tup [u, x]) ∧ Gv H u T1 ∧ Gv H x T2
theorem LyAt.same {H H' : Hp} {y : V} {o : Option (V × V)} (h : LyAt H y o) (s : Same H H') : LyAt H' y o := by
  rcases h with ⟨e, T, h1, h2⟩ | ⟨u, x, p, T1, T2, e, e1, h1, h2, h3⟩
  · refine .inl ⟨e, T, h1.same s, fun z => ?_⟩
    obtain ⟨p, xs, a, b, c⟩ := h2 z
    exact ⟨p, xs, a, s _ _ b, c⟩
  · exact .inr ⟨u, x, p, T1, T2, e, e1, s _ _ h1, h2.same s, h3.same s⟩
def inF (F : Str → Option (List Int)) : Option (V × V) → Bool
  | some (u, .int i) => match fB F u with
    | some ns => decide (i ∈ ns)
    | none => false
  | _ => false
theorem inV_ints (i : Int) : ∀ l : List Int, inV (.int i) (l.map V.int) = decide (i ∈ l)
  | [] => rfl
  | x :: r => by
    have h := inV_ints i r
    show (eqV (.int x) (.int i) || inV (.int i) (r.map V.int)) = _
    rw [h, show eqV (.int x) (.int i) = decide (i = x) by show (x == i) = _; rw [Bool.beq_eq_decide_eq]; exact decide_eq_decide.mpr ⟨Eq.symm, Eq.symm⟩, ← Bool.decide_or]
    exact decide_eq_decide.mpr List.mem_cons.symm
theorem flat_ints (l : List Int) : (l.map V.int).all flatV = true := by
  rw [List.all_map]
  exact List.all_eq_true.mpr fun _ _ => rfl
section
variable {P : Program} {w : World} {K : PySem.W.Frag} {mg : Str → Option Value} {base : Heap}
theorem Gv.kitT {H : Hp} {v : V} {T : String} (h : Gv H v T) : PySem.W.kitOne K (.type T) (.type "tuple") = some (decide (T = "tuple")) := by
  cases h <;> exact kit_ty (by decide +kernel)
def spBeg (C CT' : Addr) : Sp := fun vs H Q E => ∃ (a : Addr) (v : V) (T : String) (F : Str → Option (List Int)), vs = [.ref a, v] ∧ LvAt C H a F ∧ Gv H v T ∧
  (∀ ns, fB F v = some ns → ∀ t, H t = some (.tup (ns.map V.int)) → Q (.ref t) H) ∧ (fB F v = none → ∀ d H', Same H H' → H' d = some (.xd [("tool", v)]) → E (.ref CT') (some d) H')
theorem ok_beg {CT' CL C f : Addr} {fd : FuncData} (F : Fun K "beginnings" "Lives.beginnings" sBeg f fd) (T : Lvs K mg C) (W : Words K mg) (R : ErrsL K mg CT' CL) : FnOk P w K mg base (L2.CX P w) 3 f fd ["self", "tool"] (spBeg C CT') := by
  obtain ⟨f4, fd4, O4, F4⟩ := R.t
  have G4 : FnOk P w K mg base CX0 1 f4 fd4 ["self", "tool"] (spOneE CT' "tool") := ok_eT F4 O4
  refine F.okX scBeg (fun vs H Q E h => ?_) (fun cdv A outer s H vs Q E hr h => ?_)
  · obtain ⟨a, v, T, F, rfl, _⟩ := h
    rfl
  · obtain ⟨a, v, T', F, rfl, hL, hv, qy, qn⟩ := h
    obtain ⟨dx, d, kvs, h1, h2, h3, h4⟩ := id hL
    refine ⟨_, pss_cons (ps_if (PW.pt (pw_or (pt_not (pt_val (pe_callB call_isi (by rfl) W.isi (by decide +kernel) (pa_cons (pv 1) (pa_cons (pe_bltn (v := .ty "str") (by rfl) W.str (by decide +kernel) rfl) pa_nil)))))
        (pw_or1 (pt_cmp (pc_dnotin (hu_of hr) (pv 1) (pe_fld (pv 0) rfl)))))) (pss_one (ps_raiseOne O4 G4 rfl hr (takes_of rfl rfl rfl rfl) (by rfl) (pa_cons (pv 1) pa_nil))) pss_nil)
      (pss_one (ps_ret (pe_dget (hu_of hr) (pe_fld (pv 0) rfl) (pv 1) (fun _ _ => rfl)))), ?_⟩
    refine ⟨_, rfl, _, _, _, _, _, rfl, .ty "str", hv.ty, hv.kit "str" (.inr (.inr rfl)), _, rfl, ?_⟩
    have no : fB F v = none → tMkO CT' (spOneE CT' "tool") [] (tCons (tVar 1) tNil) [some (.ref a), some v] H fun cls d H' => E cls d H' := fun e => ⟨_, rfl, mkOne rfl fun d H' s2 _ e2 => qn e d H' s2 e2⟩
    cases hv with
    | non => exact iteT (no rfl)
    | bl b => exact iteT (no rfl)
    | int i => exact iteT (no rfl)
    | lst e => exact iteT (no rfl)
    | tup e => exact iteT (no rfl)
    | dK e => exact iteT (no rfl)
    | str z hz =>
      refine iteF ?_
      refine ⟨_, rfl, _, rfl, a, C, dx, _, _, rfl, h1, T.cl, T.nB, rfl, d, _, rfl, DGet.k (k := .inr z) h2, ?_⟩
      cases e : F z with
      | none =>
        rw [h3 z e]
        exact ⟨_, rfl, iteT (no e)⟩
      | some ns =>
        obtain ⟨t, e1, e2⟩ := h4 z ns e
        rw [e1]
        refine ⟨_, rfl, iteF ?_⟩
        exact ⟨_, rfl, a, C, dx, _, _, rfl, h1, T.cl, T.nB, rfl, _, rfl, d, _, rfl, .inl ⟨kvs, .inr z, .inl h2, rfl, e1.symm⟩, qy ns e t e2⟩
/-- life in lives -/
def spCont (C : Addr) : Sp := fun vs H Q _ => ∃ (a : Addr) (y : V) (o : Option (V × V)) (F : Str → Option (List Int)), vs = [.ref a, y] ∧ LvAt C H a F ∧ LyAt H y o ∧ Q (.bl (inF F o)) H
theorem ok_cont {C f fW : Addr} {fd fdW : FuncData} (F : Fun K "__contains__" "Lives.__contains__" sCont f fd) (T : Lvs K mg C) (W : Words K mg) (L : WordsL mg) (FW : Fun K "is_whole" "is_whole" sWhole fW fdW) (bW : Binds K fdW ["value"] []) (gW : mg "is_whole" = some (.ref fW)) :
    FnOk P w K mg base CX0 2 f fd ["self", "life"] (spCont C) := by
  have GW : FnOk P w K mg base CX0 1 fW fdW ["value"] spWhole := ok_whole FW W
  refine F.ok scCont (fun vs H Q E h => ?_) (fun cdv A outer s H vs Q E hr h => ?_)
  · obtain ⟨a, y, o, F, rfl, _⟩ := h
    rfl
  · obtain ⟨a, y, o, F, rfl, hL, hy, q⟩ := h
    obtain ⟨dx, d, kvs, h1, h2, h3, h4⟩ := id hL
    refine ⟨_, pss_cons (ps_if (PW.pt (pw_or (pt_not (pt_val (pe_callB call_isi (by rfl) W.isi (by decide +kernel) (pa_cons (pv 1) (pa_cons (pe_bltn (v := .ty "tuple") (by rfl) L.tuple (by decide +kernel) rfl) pa_nil)))))
        (pw_or1 (pt_cmpR op_ne (pe_callB call_len_seq (by rfl) W.len PySem.boot_len (pa_cons (pv 1) pa_nil)) pe_int (nomark _))))) (pss_one (ps_ret pe_bl)) pss_nil)
      (pss_cons (ps_asg (pv 1) (pg_tup rfl (pgs_cons (pg_name (i := 2) scCont.nd rfl (Or.inl rfl)) (pgs_cons (pg_name (i := 3) scCont.nd rfl (Or.inl rfl)) pgs_nil))))
      (pss_cons (ps_if (PW.pt (pw_or (pt_not (pt_val (pe_callB call_isi (by rfl) W.isi (by decide +kernel) (pa_cons (pv 2) (pa_cons (pe_bltn (v := .ty "str") (by rfl) W.str (by decide +kernel) rfl) pa_nil)))))
        (pw_or1 (pt_cmp (pc_dnotin (hu_of hr) (pv 2) (pe_fld (pv 0) rfl)))))) (pss_one (ps_ret pe_bl)) pss_nil)
      (pss_one (ps_ret (pe_and (pe_call GW hr (by rfl) gW FW.kp bW .nil pass0 (pa_cons (pv 3) pa_nil)) (pe_one (pe_cmpR op_in_seq (pv 3) (pe_dget (hu_of hr) (pe_fld (pv 0) rfl) (pv 2) (fun _ _ => rfl)) (by rfl)))))))), ?_⟩
    rcases hy with ⟨rfl, T', hv, ht⟩ | ⟨u, x, p, T1, T2, rfl, rfl, hp, hu, hx⟩
    · have q : Q (.bl false) H := q
      refine ⟨_, rfl, _, _, _, _, _, rfl, .ty "tuple", hv.ty, hv.kitT, _, rfl, ?_⟩
      by_cases e : T' = "tuple"
      · rw [decide_eq_true e]
        obtain ⟨p, xs, rfl, hp, hn⟩ := ht e
        refine iteF ⟨_, rfl, p, xs, rfl, .inr (SqT.of hp), rfl, _, rfl, ite2 (fun e2 => ?_) (fun e2 => ?_)⟩
        · exact q
        · refine absurd ?_ e2
          rw [decide_eq_false (fun z => hn (by have := V.int.inj z; omega))]
          rfl
      · rw [decide_eq_false e]
        exact iteT q
    · refine ⟨_, rfl, _, _, _, _, _, rfl, .ty "tuple", .base (.tup hp), (Gv.tup hp).kitT, _, rfl, iteF ?_⟩
      refine ⟨_, rfl, p, _, rfl, .inr (SqT.of hp), rfl, _, rfl, ite2 (fun e => by cases e) (fun _ => ?_)⟩
      refine ⟨_, rfl, p, _, rfl, SqT.of hp, rfl, u, _, rfl, x, _, rfl, rfl, ?_⟩
      refine ⟨_, rfl, _, _, _, _, _, rfl, .ty "str", hu.ty, hu.kit "str" (.inr (.inr rfl)), _, rfl, ?_⟩
      have no : fB F u = none → Q (.bl false) H := fun e => by
        have : inF F (some (u, x)) = false := by
          cases x <;> simp [inF, e]
        rw [this] at q
        exact q
      cases hu with
      | non => exact iteT (no rfl)
      | bl b => exact iteT (no rfl)
      | int i => exact iteT (no rfl)
      | lst e => exact iteT (no rfl)
      | tup e => exact iteT (no rfl)
      | dK e => exact iteT (no rfl)
      | str z hz =>
        refine iteF ?_
        refine ⟨_, rfl, _, rfl, a, C, dx, _, _, rfl, h1, T.cl, T.nB, rfl, d, _, rfl, DGet.k (k := .inr z) h2, ?_⟩
        cases e : F z with
        | none =>
          rw [h3 z e]
          exact ⟨_, rfl, iteT (no e)⟩
        | some ns =>
          obtain ⟨t, e1, e2⟩ := h4 z ns e
          rw [e1]
          refine ⟨_, rfl, iteF ?_⟩
          refine ⟨_, rfl, x, T2, rfl, hx, _, rfl, ?_⟩
          have no2 : gInt x = false → Q (.bl false) H := fun g => by
            have : inF F (some (.str z, x)) = false := by
              cases x <;> first | rfl | cases g
            rw [this] at q
            exact q
          cases hx with
          | non => exact iteF (no2 rfl)
          | bl b => exact iteF (no2 rfl)
          | str z h => exact iteF (no2 rfl)
          | lst e => exact iteF (no2 rfl)
          | tup e => exact iteF (no2 rfl)
          | dK e => exact iteF (no2 rfl)
          | int i =>
            refine iteT ?_
            refine ⟨_, rfl, _, rfl, a, C, dx, _, _, rfl, h1, T.cl, T.nB, rfl, _, rfl, d, _, rfl, .inl ⟨kvs, .inr z, .inl h2, rfl, e1.symm⟩, t, _, rfl, .inr (SqT.of e2), rfl, flat_ints _, ?_⟩
            have : inF F (some (.str z, .int i)) = inV (.int i) (ns.map V.int) := by
              rw [inV_ints]
              show (match F z with | some ns => decide (i ∈ ns) | none => false) = _
              rw [e]
            rw [this] at q
            exact q
/-- what was told of such a value; what is raised keeps it -/
def spLast (C CL : Addr) : Sp := fun vs H Q E => ∃ (a : Addr) (y : V) (o : Option (V × V)) (F : Str → Option (List Int)), vs = [.ref a, y] ∧ LvAt C H a F ∧ FOk F ∧ LyAt H y o ∧
  (∀ u i ns r, o = some (u, .int i) → fB F u = some ns → i ∈ ns → (((∀ n ∈ ns, n ≤ i) ∧ r = 1000000000000000000000000000000) ∨ ∃ m ∈ ns, i < m ∧ (∀ n ∈ ns, i < n → m ≤ n) ∧ r = m - 1) → ∀ H', Same H H' → Q (.int r) H') ∧
  (inF F o = false → ∀ d H', Same H H' → H' d = some (.xd [("value", y)]) → E (.ref CL) (some d) H')
theorem inF_inv {F : Str → Option (List Int)} {o : Option (V × V)} (h : inF F o = true) : ∃ u i ns, o = some (u, .int i) ∧ fB F u = some ns ∧ i ∈ ns := by
  match o, h with
  | some (u, .int i), h =>
    have h : (match fB F u with | some ns => decide (i ∈ ns) | none => false) = true := h
    cases e : fB F u with
    | none => rw [e] at h; cases h
    | some ns =>
      rw [e] at h
      exact ⟨u, i, ns, rfl, e, of_decide_eq_true h⟩
theorem ok_last {CT' CL C f fC : Addr} {fd fdC : FuncData} (F : Fun K "last_of" "Lives.last_of" sLast f fd) (T : Lvs K mg C) (W : Words K mg) (L : WordsL mg) (R : ErrsL K mg CT' CL) (bC : Binds K fdC ["self", "life"] [])
    (GC : FnOk P w K mg base CX0 2 fC fdC ["self", "life"] (spCont C)) (sC : PySem.W.findIn K (.ref C) "__contains__" = some (some (.ref fC))) (iC : PySem.W.isFn K (.ref fC) = true) : FnOk P w K mg base (L2.CX P w) 3 f fd ["self", "life"] (spLast C CL) := by
  obtain ⟨f5, fd5, O5, F5⟩ := R.l
  have G5 : FnOk P w K mg base CX0 1 f5 fd5 ["self", "value"] (spOneE CL "value") := ok_eL F5 O5
  refine F.okX scLast (fun vs H Q E h => ?_) (fun cdv A outer s H vs Q E hr h => ?_)
  · obtain ⟨a, y, o, F, rfl, _⟩ := h
    rfl
  · obtain ⟨a, y, o, F, rfl, hL, hO, hy, qy, qn⟩ := h
    obtain ⟨dx, d, kvs, h1, h2, h3, h4⟩ := id hL
    obtain ⟨tG, hG⟩ := W.greatest
    refine ⟨_, pss_cons (ps_if (pt_cmpR (op_notInO GC sC iC bC pass0 hr) (pv 1) (pv 0) (by rfl)) (pss_one (ps_raiseOne O5 G5 rfl hr (takes_of rfl rfl rfl rfl) (by rfl) (pa_cons (pv 1) pa_nil))) pss_nil)
      (pss_cons (ps_asg (pv 1) (pg_tup rfl (pgs_cons (pg_name (i := 2) scLast.nd rfl (Or.inl rfl)) (pgs_cons (pg_name (i := 3) scLast.nd rfl (Or.inr rfl)) pgs_nil))))
      (pss_one (ps_ret (pe_op op_sub (pe_minDef rfl hr.units (by rfl) L.min (pa_cons (pe_lc (own := [("later", 4)]) (g := gName 4) rfl scLast.nd (pi_tup (pe_dget (hu_of hr) (pe_fld (pv 0) rfl) (pv 2) (fun _ _ => rfl))) (blkOk_by (N := ["self", "life", "tool", "beginning", "later"]) (sc := defScope sLast) (by decide +kernel))
          (fun _ _ _ _ _ => pg_name (i := 4) scLast.nd rfl (Or.inl rfl)) (fun _ _ _ _ _ => pts_one (pt_cmpR op_gt (pv 4) (pv 3) (nomark _)))
          (fun _ _ _ _ _ => pv 4)) pa_nil) (pk_cons (pe_op op_add (pe_glob (v := .int 1000000000000000000000000000000) rfl hG ⟨_, rfl⟩) pe_int) pk_nil)) pe_int)))), ?_⟩
    refine ⟨_, rfl, _, rfl, a, dx, _, rfl, h1, a, y, o, F, rfl, hL, hy, _, rfl, _, rfl, ite2 (fun e => ?_) (fun e => ?_)⟩
    · have e : inF F o = false := by
        cases h : inF F o with
        | true => rw [h] at e; cases e
        | false => rfl
      exact ⟨_, rfl, mkOne rfl fun d H' s2 _ e2 => qn e d H' s2 e2⟩
    · have e : inF F o = true := by
        cases h : inF F o with
        | true => rfl
        | false => rw [h] at e; exact absurd rfl e
      obtain ⟨u, i, ns, rfl, eu, hi⟩ := inF_inv e
      obtain ⟨p, T1, T2, rfl, hp⟩ : ∃ p, ∃ T1 T2 : String, y = .ref p ∧ H p = some (.tup [u, .int i]) := by
        rcases hy with ⟨z, _⟩ | ⟨_, _, p, T1, T2, e1, e2, e3, _⟩
        · cases z
        · cases e1
          exact ⟨p, T1, T2, e2, e3⟩
      obtain ⟨z, rfl⟩ : ∃ z, u = .str z := by
        cases u with
        | str z => exact ⟨z, rfl⟩
        | _ => cases eu
      have eu : F z = some ns := eu
      obtain ⟨t, e1, e2⟩ := h4 z ns eu
      refine ⟨_, rfl, p, _, rfl, SqT.of hp, rfl, _, _, rfl, _, _, rfl, rfl, ?_⟩
      refine ⟨_, rfl, a, C, dx, _, _, rfl, h1, T.cl, T.nB, rfl, _, rfl, d, _, rfl, .inl ⟨kvs, .inr z, .inl h2, rfl, e1.symm⟩, t, rfl, ⟨_, SqT.of e2⟩, fun D hD => ?_⟩
      obtain ⟨l, rfl, hl64, hlb, hlp⟩ := hO z ns eu
      have hlen : ∀ k, ((((0 :: l).take k).filter fun n => decide (i < n)).map V.int).length < sizeLine := fun k => by
        rw [List.length_map]
        have h1 := List.length_filter_le (fun n => decide (i < n)) ((0 :: l).take k)
        have h2 : ((0 :: l).take k).length ≤ (0 :: l).length := List.length_take_le' _ _
        have h3 : (0 :: l).length = l.length + 1 := rfl
        have := sizeLine_eq
        omega
      refine lc_it walk_tup (fun k H' => Same H H' ∧ H' D = some (.lst ((((0 :: l).take k).filter fun n => decide (i < n)).map V.int))) ⟨Same.over (Same.refl H) hD, upd_same⟩ (fun _ _ _ y => SqT.of (y.1 _ _ e2)) ?_ ?_
      · rintro k x H1 H2 hk ⟨s1, hDk⟩ ⟨rfl, hx⟩
        obtain ⟨n, hn, rfl⟩ : ∃ n, (0 :: l)[k]? = some n ∧ x = .int n := by
          rw [List.getElem?_map] at hx
          cases e : (0 :: l)[k]? with
          | none => rw [e] at hx; cases hx
          | some n => rw [e] at hx; exact ⟨n, rfl, (Option.some.inj hx).symm⟩
        refine ⟨rfl, _, rfl, _, rfl, _, _, rfl, rfl, _, rfl, ?_⟩
        have et : (0 :: l).take (k + 1) = (0 :: l).take k ++ [n] := by rw [List.take_add_one, hn]; rfl
        rw [et, List.filter_append]
        by_cases c : i < n
        · rw [decide_eq_true c]
          refine iteT ⟨_, rfl, _, hDk, hlen k, Same.over s1 hD, ?_⟩
          rw [upd_same, List.map_append]
          simp [c]
        · rw [decide_eq_false c]
          refine iteF ⟨s1, ?_⟩
          rw [hDk]
          simp [c]
      · rintro H1 ⟨s1, hDk⟩
        rw [List.length_map, List.take_length] at hDk
        refine ⟨_, _, rfl, rfl, D, _, _, rfl, rfl, SqL.of hDk, fun e0 => ?_, fun m hm1 hm2 => ?_⟩
        · refine ⟨_, _, rfl, rfl, qy _ i _ _ rfl eu hi (.inl ⟨fun n hn => ?_, rfl⟩) H1 s1⟩
          have := List.filter_eq_nil_iff.mp e0 n hn
          have : ¬ i < n := fun z => this (decide_eq_true z)
          omega
        · refine ⟨_, _, rfl, rfl, qy _ i _ _ rfl eu hi (.inr ⟨m, (List.mem_filter.mp hm1).1, of_decide_eq_true (List.mem_filter.mp hm1).2, fun n hn hin => hm2 n (List.mem_filter.mpr ⟨hn, decide_eq_true hin⟩), rfl⟩) H1 s1⟩
end
end K13

namespace So
open PySem PySem.Spec PyProof.Rows L2
section
variable {P : Program} {w : World} {K : PySem.W.Frag} {mg : Str → Option Value} {base : Heap} {CX : CXT} {sp : Sp} {fd : FuncData} {ps N : List Str} {k : Nat} {f c : Addr}
/-- a def by its body, the guards and the code object told -/
theorem fnG_ofC {x qual : Str} {st : Stmt} (F : Fun K x qual st f fd) (hcode : fd.code = .ref c) (S : FnScope N ps (defScope st)) (len : ∀ vs H Q E, sp vs H Q E → vs.length = ps.length)
    (hbody : ∀ (A : Around) (outer : List Env) (s : Shared) (H : Hp) (vs : List V) (Q : VK) (E : XK), A.guards = some [] → Room k (A.deeper (envOfC qual (defScope st) s.heap.objs.size f (.ref c))) → sp vs H Q E →
      ∃ t, PSs (cxOf CX P w K mg base N qual (defScope st) f (.ref c) A outer s H E).nox (defBody st) t ∧ t { nx := fun _ H' => Q .non H', rt := Q } (start N vs) H) : FnG P w K mg base CX (k + 1) f fd ps sp := by
  obtain ⟨oc, od, kV, doc, pm, an, cdv, ct, osl, rfl, lk, hcd⟩ := F.ex
  obtain rfl : cdv = .ref c := hcode
  constructor
  · exact len
  intro A outer s H args us vs Q E hg hr e0 hb r hsp
  have old : ∀ b o, base.get? b = some o → s.heap.get? b = some o := fun b o e => (e0.bs b o e).1
  have KX := e0.mod.kin.keeps old
  have lim := e0.mod.nolimit.keeps old
  refine codeAny_call_function hr.depth (KX _ _ lk) rfl S.co S.gen rfl (PySem.W.codeRec_of KX hcd) (hb _ _ _ _ ?_)
  refine wpAny_newFunctionEnv_cells S.kind (fun y hy => ?_) fun env he s1 x => ?_
  · rcases S.par y.1 (List.of_mem_zip (show (y.1, y.2) ∈ ps.zip us from hy)).1 with q | q
    · exact Or.inl q
    · exact Or.inr (And.intro q (PySem.W.cellsFrom_some _ _ _ (Or.inl q)))
  subst he
  refine And.intro (lim.keeps x.toInCall.keep) (codeAny_func ?_)
  obtain ⟨t, ht, hq⟩ := hbody A outer s H vs Q E hg (hr.deeper _) hsp
  refine wpAny_mono (ht.nox.run [] s1 (start N vs) H _ (inv_start S hr.hd e0 (len _ _ _ _ hsp) r x) hq) (fun fl s' hs => ?_) fun _ _ hs => hs
  match fl, hs with
  | .ret u, ⟨v, σ', H', J, rv, q⟩ => exact ⟨v, H', J.os, J.bare, J.base, J.hok, rv, q⟩
  | .next, ⟨σ', H', J, q⟩ => exact ⟨V.non, H', J.os, J.bare, J.base, J.hok, rfl, q⟩
  | .brk, ⟨_, _, _, q⟩ => exact q.elim
  | .cont, ⟨_, _, _, q⟩ => exact q.elim
end
end So

namespace So
open PySem PySem.Spec PyProof.Rows L2 LamX
/-- the law's call, its one table of code objects and the guards told -/
theorem law_callTG {P : Program} {w : World} {K : PySem.W.Frag} {mg mb : Str → Option Value} {CX : CXT} {k : Nat} {fa a c T : Addr} {fd : FuncData} {x : Str} {sp : Sp} {s₁ : Shared} {vs : List Value} {ns : List Int}
    (KX : K.In s₁.heap) (hns : s₁.heap.Ns mainGlobals mg) (hb : s₁.heap.Ns builtinsNs mb) (hbb : ∀ x : Str, x ≠ "__name__" → mb x = bootBuiltins x) (hlim : s₁.heap.NoLimit) (hg : s₁.gens = #[])
    (tab : s₁.heap.get? T = some { cls := .none, data := .fields #[] }) (noT : K.lookup T = none) (cd : PySem.W.CodeHd s₁.heap c T)
    (mod : ∃ (bm : Addr) (ob : Obj), mg "__builtins__" = some (.ref bm) ∧ bm ≠ builtinsNs ∧ s₁.heap.get? bm = some ob ∧ ob.cls = .type "module" ∧ ob.dict = some builtinsNs ∧ ob.data = .plain)
    (ha : s₁.heap.get? a = some { cls := .type "list", data := .seq vs.toArray }) (hi : IntsAre vs ns) (hl : ns.length ≤ sizeLine) (hr : Room k callerA)
    (F : ∀ base : Heap, K.In base → base.Ns mainGlobals mg → TabB base mg c T → FnG P w K mg base CX k fa fd [x] sp) (hbind : ∀ (s : Shared) (u : Value), BindsTo s fd ⟨[u], []⟩ [(x, u)])
    (hsp : ∀ H : Hp, H T = some (.tbl #[]) → SqL K H a (ns.map V.int) → sp [.ref a] H (fun v _ => v = .bl true) fun _ _ _ => False)
    (hCX : ∀ H e s', CX [] H s₁ (fun _ _ _ => False) e s' → False) :
    codeAny (model P w) callerA (.call (.ref fa) ⟨[.ref a], []⟩) (fun r s' => r = .ok (.ret (.bool true)) ∧ OldK s₁.heap s'.heap ∧ s'.os = s₁.os ∧ AllBare s'.gens) s₁ := by
  have aT : a ≠ T := fun z => by
    rw [z, tab] at ha
    have := congrArg Obj.data (Option.some.inj ha)
    cases this
  -- what may be tracked at the start: the table, and the script where the written part does not hold it
  have go : ∀ H : Hp, H T = some (.tbl #[]) → (∀ b u, H b = some u → b = T ∨ (b = a ∧ K.lookup a = none ∧ ∃ o xs, u = .frz o (.lst xs))) → SqL K H a (ns.map V.int) → HOk P w H s₁.heap →
      codeAny (model P w) callerA (.call (.ref fa) ⟨[.ref a], []⟩) (fun r s' => r = .ok (.ret (.bool true)) ∧ OldK s₁.heap s'.heap ∧ s'.os = s₁.os ∧ AllBare s'.gens) s₁ := by
    intro H hT hA hS hok
    -- an object that is neither the script's list nor the table stands in the base
    have free : ∀ {b : Addr} {o : Obj}, s₁.heap.get? b = some o → (∀ vs n, o.data ≠ .seq vs n) → o.data ≠ .fields #[] → H b = none := by
      intro b o e h1 h2
      cases q : H b with
      | none => rfl
      | some u =>
        rcases hA b u q with rfl | ⟨rfl, _⟩
        · rw [tab] at e
          cases e
          exact absurd rfl h2
        · rw [ha] at e
          cases e
          exact absurd rfl (h1 _ _)
    have toBase : ∀ {b : Addr} {o : Obj}, s₁.heap.get? b = some o → H b = none → (hidT s₁.heap H).get? b = some o := fun e n => hidT_get e n
    have nsB : ∀ {b : Addr} {m : Str → Option Value}, s₁.heap.Ns b m → (hidT s₁.heap H).Ns b m := by
      rintro b m ⟨o, es, ep, e, d, r⟩
      have n : H b = none := by
        refine free e ?_ ?_
        · intro vs n z
          rw [d] at z
          cases z
        · intro z
          rw [d] at z
          cases z
      exact ⟨o, es, ep, toBase e n, d, r⟩
    have kin : K.In (hidT s₁.heap H) := by
      intro b o e
      refine toBase (KX b o e) ?_
      cases q : H b with
      | none => rfl
      | some u =>
        rcases hA b u q with rfl | ⟨rfl, z, _⟩
        · rw [noT] at e
          cases e
        · rw [z] at e
          cases e
    have lim2 : (hidT s₁.heap H).NoLimit := by
      obtain ⟨mc, h1, h2⟩ := hlim
      exact ⟨mc, nsB h1, h2⟩
    have gT : mainGlobals ≠ T := fun z => by
      obtain ⟨o, es, ep, e, d, _⟩ := hns
      rw [z, tab] at e
      cases e
      cases d
    have cd2 : PySem.W.CodeHd (hidT s₁.heap H) c T := by
      obtain ⟨o, us, fl, tf, fg, tg, inF, tx, tt, e1, r1, r2, r3, r⟩ := cd
      refine ⟨o, us, fl, tf, fg, tg, inF, tx, tt, toBase e1 (free e1 ?_ ?_), r1, r2, r3, r⟩
      · intro vs n z
        rw [r2] at z
        cases z
      · intro z
        rw [r2] at z
        cases z
        simp at r3
    have bm2 : (hidT s₁.heap H).BuiltinsAt mg T := by
      obtain ⟨bm, ob, b1, b2, b3, b4, b5, b6⟩ := mod
      have n1 : bm ≠ mainGlobals := fun z => by
        obtain ⟨o, es, ep, e, d, _⟩ := hns
        rw [z, e] at b3
        cases b3
        rw [d] at b6
        cases b6
      have n2 : bm ≠ T := fun z => by
        rw [z, tab] at b3
        cases b3
        cases b6
      refine ⟨bm, ob, b1, b2, n1, n2, toBase b3 (free b3 ?_ ?_), b4, b5, b6⟩
      · intro vs n z
        rw [b6] at z
        cases z
      · intro z
        rw [b6] at z
        cases z
    have e0 : Env0 P w K mg (hidT s₁.heap H) callerA [] s₁ H := by
      refine ⟨rfl, ⟨kin, nsB hns, ⟨mb, nsB hb, hbb⟩, lim2⟩, fun b o e => of_hidT e, Nat.le_of_eq (hidT_size _ _), True.intro, ?_, hok, .of_eq hg⟩
      intro b hb
      cases hb
    refine codeAny_mono ((F _ kin (nsB hns) ⟨cd2, bm2, gT⟩).runG callerA [] s₁ H ⟨[.ref a], []⟩ [.ref a] [.ref a] _ _ rfl hr e0 (hbind s₁ (.ref a)) (.cons rfl .nil) (hsp H hT hS)) fun r s' h => ?_
    match r, h with
    | .error e, h => exact (hCX H e s' h).elim
    | .ok .next, h => exact h.elim
    | .ok .brk, h => exact h.elim
    | .ok .cont, h => exact h.elim
    | .ok (.ret u), ⟨v, H', os, bare, un, hok', rv, q⟩ =>
      have q2 : v = .bl true := q
      subst q2
      cases rv
      obtain ⟨more, hm⟩ := un.tbls T #[] hT
      have grown : s'.heap.get? T = some { cls := .none, data := .fields (#[] ++ more) } := hok' T _ hm
      have stay : ∀ b o, b ≠ T → s₁.heap.get? b = some o → s'.heap.get? b = some o := by
        intro b o n e
        cases q : H b with
        | none => exact un.keep b o e q (fun z => nomatch z) (fun z => nomatch z)
        | some u =>
          rcases hA b u q with z | ⟨_, _, ob, xs, rfl⟩
          · exact absurd z n
          · have z1 := (hok b _ q).1
            have z2 := (hok' b _ (un.frzs b ob _ q)).1
            rw [z1] at e
            rw [z2, e]
      refine ⟨rfl, ⟨fun b o e => ?_, fun b o e => ?_⟩, os, bare⟩
      · by_cases n : b = T
        · subst n
          rw [tab] at e
          cases e
          refine .inr (.inl ⟨(cd.tab tab).isCodeTable, rfl, #[], more, rfl, grown⟩)
        · exact .inl (stay b o n e)
      · by_cases n : b = T
        · subst n
          exact ⟨_, grown⟩
        · exact ⟨o, stay b o n e⟩
  have rv := vals_ints hi
  have hlen : (ns.map V.int).length ≤ sizeLine := by rw [List.length_map]; exact hl
  cases hk : K.lookup a with
  | some o =>
    have e := KX a o hk
    rw [ha] at e
    cases e
    refine go (fun b => if b = T then some (.tbl #[]) else none) (if_pos rfl) (fun b u z => ?_) (Or.inr ⟨_, vs.toArray, _, hk, rfl, rfl, rfl, by rw [List.size_toArray, hi.length]; exact hl, by simpa using rv⟩) fun b u z => ?_
    · try dsimp only at z
      by_cases n : b = T
      · exact Or.inl n
      · rw [if_neg n] at z
        cases z
    · try dsimp only at z
      by_cases n : b = T
      · rw [if_pos n] at z
        cases z
        rw [n]
        exact tab
      · rw [if_neg n] at z
        cases z
  | none =>
    refine go (fun b => if b = T then some (.tbl #[]) else if b = a then some (.frz { cls := .type "list", data := .seq vs.toArray } (.lst (ns.map V.int))) else none) (if_pos rfl) (fun b u z => ?_) (Or.inl (Or.inr ⟨_, (if_neg aT).trans (if_pos rfl)⟩)) fun b u z => ?_
    · try dsimp only at z
      by_cases n : b = T
      · exact Or.inl n
      · rw [if_neg n] at z
        by_cases n2 : b = a
        · rw [if_pos n2] at z
          cases z
          exact Or.inr ⟨n2, hk, _, _, rfl⟩
        · rw [if_neg n2] at z
          cases z
    · try dsimp only at z
      by_cases n : b = T
      · rw [if_pos n] at z
        cases z
        rw [n]
        exact tab
      · rw [if_neg n] at z
        by_cases n2 : b = a
        · rw [if_pos n2] at z
          cases z
          rw [n2]
          exact ⟨ha, hlen, vs, _, rv, ha⟩
        · rw [if_neg n2] at z
          cases z
end So

namespace K13
open PySem PySem.Spec PyProof.Rows L2 So LamX
abbrev sHeard : Stmt := topS 64
abbrev heardN : List Str := ["_law_ask", "_law_caught", "error", "_law_heard_here"]
theorem scHeard : FnScope heardN ["_law_ask"] (defScope sHeard) := ⟨rfl, rfl, rfl, by decide +kernel, rfl, by decide +kernel, by decide +kernel⟩
theorem pe_imp {X : Cx} {e : Expr} {t : TE} (h : PE X e t) : PE X e (fun σ H Q => ∃ Q0 : VK, t σ H Q0 ∧ ∀ v H', Q0 v H' → Q v H') :=
  ⟨fun pins s σ H Q I ⟨Q0, h1, h2⟩ => thn (h.run pins s σ H Q0 I h1) fun u s' ⟨v, H', I', r, q⟩ => ⟨v, H', I', r, h2 v H' q⟩⟩
theorem takes_len {X : Cx} {W : WX} (tk : Takes X W) : Takes X (fun c d σ H => σ.length = X.N.length → W c d σ H) := fun u s' ⟨a, B, sI, pins, σ, H, cls, d, e, I, nb, up, sky, na, os, ag, w⟩ =>
  tk u s' ⟨a, B, sI, pins, σ, H, cls, d, e, I, nb, up, sky, na, os, ag, w I.len⟩
/-- the errors by the law's words -/
def KindL (CN CM CS : Addr) (wd : Str) (C : Addr) (fl : Str) : Prop := (wd = "tool" ∧ C = CN ∧ fl = "tool") ∨ (wd = "name" ∧ C = CM ∧ fl = "name") ∨ (wd = "moment" ∧ C = CS ∧ fl = "moment")
def EchL (CN CM CS : Addr) (Q : VK) : XK := fun cls d H' => ∃ (wd : Str) (C : Addr) (fl : Str) (v : V) (dd : Addr), KindL CN CM CS wd C fl ∧ cls = .ref C ∧ d = some dd ∧ H' dd = some (.xd [(fl, v)]) ∧ ∀ (H'' : Hp) (r : Addr), Same H' H'' → H'' r = some (.tup [.str wd, v]) → Q (.ref r) H''
def QtL (Q : VK) : VK := fun v H' => ∀ t, H' t = none → Q (.ref t) (upd H' t (.tup [.str "told", v]))
def TTL (CN CM CS : Addr) : (XK → Hp → VK → Prop) → Hp → VK → Prop := fun tl H Q => tl (EchL CN CM CS Q) H (QtL Q)
/-- what the top says of the errors, to the law's heard -/
structure HrL (K : PySem.W.Frag) (mg : Str → Option Value) (CT CN CM CS : Addr) : Prop where
  gT : mg "TillError" = some (.ref CT)
  gN : mg "NoTool" = some (.ref CN)
  gM : mg "BadName" = some (.ref CM)
  gS : mg "BadMoment" = some (.ref CS)
  gV : mg "ValueError" = none
  isi : mg "isinstance" = none
  len : mg "len" = none
  te : ∀ C ∈ [CN, CM, CS], PySem.W.exmOne K (.ref C) (.ref CT) = some true ∧ PySem.W.kitOne K (.ref C) (.type "ValueError") = some true ∧ Err K C
  no : ∀ C ∈ [CN, CM, CS], PySem.W.kitOne K (.type "NoneType") (.ref C) = some false
  nn : PySem.W.kitOne K (.ref CN) (.ref CN) = some true
  nm : PySem.W.kitOne K (.ref CN) (.ref CM) = some false
  ns : PySem.W.kitOne K (.ref CN) (.ref CS) = some false
  mn : PySem.W.kitOne K (.ref CM) (.ref CN) = some false
  mm : PySem.W.kitOne K (.ref CM) (.ref CM) = some true
  ms : PySem.W.kitOne K (.ref CM) (.ref CS) = some false
  sn : PySem.W.kitOne K (.ref CS) (.ref CN) = some false
  sm : PySem.W.kitOne K (.ref CS) (.ref CM) = some false
  ss : PySem.W.kitOne K (.ref CS) (.ref CS) = some true
  fN : PySem.W.findIn K (.ref CN) "tool" = some none
  fM : PySem.W.findIn K (.ref CM) "name" = some none
  fS : PySem.W.findIn K (.ref CS) "moment" = some none
section
variable {X : Cx}
theorem heard_gives {q : Str} {g CT CN CM CS : Addr} {cdg : Value} (R : HrL X.K X.mg CT CN CM CS) : GivesTo X heardN "_law_heard" (defScope sHeard) g cdg (defBody sHeard) "_law_ask" q (TTL CN CM CS) := by
  intro f c' s H Q tl act hc h
  have TM := (R.te CM (by simp)).2.2
  have TN := (R.te CN (by simp)).2.2
  have TS := (R.te CS (by simp)).2.2
  refine ⟨_, (pss_cons (ps_set (i := 1) scHeard.nd rfl (.inl rfl) pe_non)
      (pss_cons (ps_try_keep (X := (cxOf C8.CX0 X.prog X.w X.K X.mg X.base heardN "_law_heard" (defScope sHeard) g cdg X.A X.stack s H C8.E0).nox) (i := 2) (n := "error") (c := .ref CT)
        (tb := fun W D σ H => ∃ Ech : XK, (∀ cls d σ' H', Ech cls d H' → σ'.length = 4 → W cls d σ' H') ∧ σ[0]? = some (some (.ref f)) ∧ H c' = some (CodeO c' q) ∧ ∃ Q0 : VK, tl Ech H Q0 ∧ ∀ v H', Q0 v H' → ∀ t, H' t = none → D.rt (.ref t) (upd H' t (.tup [.str "told", v])))
        rfl rfl rfl scHeard.nd rfl rfl ⟨rfl, by decide, .inl R.gT⟩ LamX.takes0 (fun W pn xe tk _ => ?_) (fun a pn => pss_one (ps_set (i := 1) scHeard.nd rfl (.inl rfl) (pv 2))))
      (pss_cons (ps_set (i := 3) scHeard.nd rfl (.inl rfl) (pe_lst pa_nil))
      (pss_cons (ps_if (pt_val (pe_callB (So.CallR.or call_isi call_isXo) (by rfl) R.isi (by decide +kernel) (pa_cons (pv 1) (pa_cons (pe_glob (v := .ref CN) rfl R.gN rfl) pa_nil)))) (pss_one (ps_expr (pe_bm PySem.F.plainAttrs_list PySem.F.slot_list_append PySem.F.type_list_append mt_append (pv 3) (pa_cons (pe_tup (pa_cons pe_str (pa_cons (pe_xo TN R.fN (pv 1)) pa_nil))) pa_nil)))) pss_nil)
      (pss_cons (ps_if (pt_val (pe_callB (So.CallR.or call_isi call_isXo) (by rfl) R.isi (by decide +kernel) (pa_cons (pv 1) (pa_cons (pe_glob (v := .ref CM) rfl R.gM rfl) pa_nil)))) (pss_one (ps_expr (pe_bm PySem.F.plainAttrs_list PySem.F.slot_list_append PySem.F.type_list_append mt_append (pv 3) (pa_cons (pe_tup (pa_cons pe_str (pa_cons (pe_xo TM R.fM (pv 1)) pa_nil))) pa_nil)))) pss_nil)
      (pss_cons (ps_if (pt_val (pe_callB (So.CallR.or call_isi call_isXo) (by rfl) R.isi (by decide +kernel) (pa_cons (pv 1) (pa_cons (pe_glob (v := .ref CS) rfl R.gS rfl) pa_nil)))) (pss_one (ps_expr (pe_bm PySem.F.plainAttrs_list PySem.F.slot_list_append PySem.F.type_list_append mt_append (pv 3) (pa_cons (pe_tup (pa_cons pe_str (pa_cons (pe_xo TS R.fS (pv 1)) pa_nil))) pa_nil)))) pss_nil)
      (pss_one (ps_ret (pe_ifExp (PW.pt (pw_and (pt_cmpR op_eq (pe_callB call_len_seq (by rfl) R.len PySem.boot_len (pa_cons (pv 3) pa_nil)) pe_int (nomark _))
        (pw_and1 (pt_val (pe_callB call_isXo (by rfl) R.isi (by decide +kernel) (pa_cons (pv 1) (pa_cons (pe_bltn (v := .ty "ValueError") (by rfl) R.gV (by decide +kernel) rfl) pa_nil)))))))
      (pe_ix ix_list (pv 3) pe_int (fun _ _ => rfl)) pe_str))))))))), ?_⟩
  · refine ⟨fun pins s' σ H' D I h' => ?_⟩
    obtain ⟨Ech, hW, h1, h2, Q0, h3, h4⟩ := h'
    refine (pss_one (ps_ret (pe_tup (pa_cons pe_str (pa_cons (pe_imp (act (fun c d σ H => σ.length = 4 → W c d σ H) pn xe Ech _ _ (takes_len tk) hW)) pa_nil))))).run pins s' σ H' D I ?_
    exact ⟨Q0, ⟨h1, h2, h3⟩, fun v H'' z => ⟨by show 2 ≤ sizeLine; decide, fun t ht => h4 v H'' z t ht⟩⟩
  · refine ⟨EchL CN CM CS Q, fun cls d σ' H' ⟨wd, C, fl, v, dd, k3, e1, e2, e3, q3⟩ hl => ?_, rfl, hc, QtL Q, h, fun v H' z t ht => z t ht⟩
    obtain ⟨x0, x1, x2, x3, rfl⟩ : ∃ x0 x1 x2 x3, σ' = [x0, x1, x2, x3] := by
      match σ', hl with
      | [x0, x1, x2, x3], _ => exact ⟨x0, x1, x2, x3, rfl⟩
    subst e1 e2
    have hC : C ∈ [CN, CM, CS] := by
      rcases k3 with ⟨_, rfl, _⟩ | ⟨_, rfl, _⟩ | ⟨_, rfl, _⟩ <;> simp
    obtain ⟨tE, tV, tEr⟩ := R.te C hC
    refine ⟨true, tE, fun _ a ha => ?_, fun y => nomatch y⟩
    refine ⟨_, rfl, by show 0 ≤ sizeLine; decide, fun p hp => ?_⟩
    have s0 : Same H' (upd H' a (Xo (.ref C) (some dd) a)) := same_upd0 ha
    have s1 := s0.trans (same_upd0 (o := .lst []) hp)
    have HA : (upd (upd H' a (Xo (.ref C) (some dd) a)) p (.lst [])) a = some (Xo (.ref C) (some dd) a) := same_upd0 hp _ _ upd_same
    have HD : (upd (upd H' a (Xo (.ref C) (some dd) a)) p (.lst [])) dd = some (.xd [(fl, v)]) := s1 _ _ e3
    have HP : (upd (upd H' a (Xo (.ref C) (some dd) a)) p (.lst [])) p = some (.lst []) := upd_same
    have hpn : H' p = none := s0.free hp
    revert s1 HA HD HP
    generalize upd (upd H' a (Xo (.ref C) (some dd) a)) p (.lst []) = H1
    intro s1 HA HD HP
    rcases k3 with ⟨rfl, rfl, rfl⟩ | ⟨rfl, rfl, rfl⟩ | ⟨rfl, rfl, rfl⟩
    · refine ⟨_, rfl, .inr ⟨a, _, dd, _, _, _, true, rfl, HA, HD, tEr, .own _, R.nn, _, rfl, iteT ?_⟩⟩
      refine ⟨_, rfl, .inl ⟨rfl, _, SqL.of HP⟩, _, rfl, a, dd, _, v, rfl, HA, HD, by simp [List.lookup], by show 2 ≤ sizeLine; decide, fun r hr => ?_⟩
      have s2 := same_upd0 (o := .tup [.str "tool", v]) hr
      refine ⟨p, _, _, rfl, rfl, s2 _ _ HP, by show 0 < sizeLine; decide, ?_⟩
      have nrp : r ≠ p := fun y => by rw [y, HP] at hr; cases hr
      have nap : a ≠ p := fun y => by rw [y, HP] at HA; cases HA
      have ndp : dd ≠ p := ne_of HD HP (fun y => nomatch y)
      have HA3 := (upd_ne (o := HO.lst [.ref r]) nap).trans (s2 _ _ HA)
      have HD3 := (upd_ne (o := HO.lst [.ref r]) ndp).trans (s2 _ _ HD)
      refine ⟨_, rfl, .inr ⟨a, _, dd, _, _, _, false, rfl, HA3, HD3, tEr, .own CM, R.nm, _, rfl, iteF ?_⟩⟩
      refine ⟨_, rfl, .inr ⟨a, _, dd, _, _, _, false, rfl, HA3, HD3, tEr, .own CS, R.ns, _, rfl, iteF ?_⟩⟩
      refine ⟨_, rfl, p, _, rfl, .inl (SqL.of upd_same), rfl, _, rfl, ite2 (fun _ => ?_) (fun y => absurd (decide_eq_true rfl) y)⟩
      refine ⟨_, rfl, a, _, dd, _, _, _, true, rfl, HA3, HD3, tEr, .ty "ValueError", tV, _, rfl, iteT ?_⟩
      refine ⟨_, rfl, p, _, 0, _, rfl, rfl, SqL.of upd_same, atI_nat (j := 0) rfl, q3 _ r (fun b o y => ?_) ((upd_ne nrp).trans upd_same)⟩
      exact (upd_ne (ne_of_none y hpn)).trans (s2 _ _ (s1 _ _ y))
    · refine ⟨_, rfl, .inr ⟨a, _, dd, _, _, _, false, rfl, HA, HD, tEr, .own CN, R.mn, _, rfl, iteF ?_⟩⟩
      refine ⟨_, rfl, .inr ⟨a, _, dd, _, _, _, true, rfl, HA, HD, tEr, .own _, R.mm, _, rfl, iteT ?_⟩⟩
      refine ⟨_, rfl, .inl ⟨rfl, _, SqL.of HP⟩, _, rfl, a, dd, _, v, rfl, HA, HD, by simp [List.lookup], by show 2 ≤ sizeLine; decide, fun r hr => ?_⟩
      have s2 := same_upd0 (o := .tup [.str "name", v]) hr
      refine ⟨p, _, _, rfl, rfl, s2 _ _ HP, by show 0 < sizeLine; decide, ?_⟩
      have nrp : r ≠ p := fun y => by rw [y, HP] at hr; cases hr
      have nap : a ≠ p := fun y => by rw [y, HP] at HA; cases HA
      have ndp : dd ≠ p := ne_of HD HP (fun y => nomatch y)
      have HA3 := (upd_ne (o := HO.lst [.ref r]) nap).trans (s2 _ _ HA)
      have HD3 := (upd_ne (o := HO.lst [.ref r]) ndp).trans (s2 _ _ HD)
      refine ⟨_, rfl, .inr ⟨a, _, dd, _, _, _, false, rfl, HA3, HD3, tEr, .own CS, R.ms, _, rfl, iteF ?_⟩⟩
      refine ⟨_, rfl, p, _, rfl, .inl (SqL.of upd_same), rfl, _, rfl, ite2 (fun _ => ?_) (fun y => absurd (decide_eq_true rfl) y)⟩
      refine ⟨_, rfl, a, _, dd, _, _, _, true, rfl, HA3, HD3, tEr, .ty "ValueError", tV, _, rfl, iteT ?_⟩
      refine ⟨_, rfl, p, _, 0, _, rfl, rfl, SqL.of upd_same, atI_nat (j := 0) rfl, q3 _ r (fun b o y => ?_) ((upd_ne nrp).trans upd_same)⟩
      exact (upd_ne (ne_of_none y hpn)).trans (s2 _ _ (s1 _ _ y))
    · refine ⟨_, rfl, .inr ⟨a, _, dd, _, _, _, false, rfl, HA, HD, tEr, .own CN, R.sn, _, rfl, iteF ?_⟩⟩
      refine ⟨_, rfl, .inr ⟨a, _, dd, _, _, _, false, rfl, HA, HD, tEr, .own CM, R.sm, _, rfl, iteF ?_⟩⟩
      refine ⟨_, rfl, .inr ⟨a, _, dd, _, _, _, true, rfl, HA, HD, tEr, .own _, R.ss, _, rfl, iteT ?_⟩⟩
      refine ⟨_, rfl, .inl ⟨rfl, _, SqL.of HP⟩, _, rfl, a, dd, _, v, rfl, HA, HD, by simp [List.lookup], by show 2 ≤ sizeLine; decide, fun r hr => ?_⟩
      have s2 := same_upd0 (o := .tup [.str "moment", v]) hr
      refine ⟨p, _, _, rfl, rfl, s2 _ _ HP, by show 0 < sizeLine; decide, ?_⟩
      have nrp : r ≠ p := fun y => by rw [y, HP] at hr; cases hr
      have nap : a ≠ p := fun y => by rw [y, HP] at HA; cases HA
      have ndp : dd ≠ p := ne_of HD HP (fun y => nomatch y)
      have HA3 := (upd_ne (o := HO.lst [.ref r]) nap).trans (s2 _ _ HA)
      have HD3 := (upd_ne (o := HO.lst [.ref r]) ndp).trans (s2 _ _ HD)
      refine ⟨_, rfl, p, _, rfl, .inl (SqL.of upd_same), rfl, _, rfl, ite2 (fun _ => ?_) (fun y => absurd (decide_eq_true rfl) y)⟩
      refine ⟨_, rfl, a, _, dd, _, _, _, true, rfl, HA3, HD3, tEr, .ty "ValueError", tV, _, rfl, iteT ?_⟩
      refine ⟨_, rfl, p, _, 0, _, rfl, rfl, SqL.of upd_same, atI_nat (j := 0) rfl, q3 _ r (fun b o y => ?_) ((upd_ne nrp).trans upd_same)⟩
      exact (upd_ne (ne_of_none y hpn)).trans (s2 _ _ (s1 _ _ y))
end
end K13

namespace So
open PySem PySem.Spec PyProof.Rows L2
/-! tuple(d) of a dict: its keys -/
section
variable {prog : Program} {w : World} {A : Around} {E : Value → Shared → Prop} {s : Shared} {r d : Addr} {n : Nat} {P : Nat → Value → Prop} {OK : Heap → Prop}
theorem code_tuple_new_dict {Q₁ : Value → Shared → Prop} (K : PySem.W.KdlSrc prog w "dict" r d n P OK) (hh : A.handled = none) (hok : OK s.heap) (hn : n ≤ sizeLine)
    (h : ∀ (h' : Heap) (tk : Nat) (acc : Array Value), (∀ b o, s.heap.get? b = some o → h'.get? b = some o) → ItemsOf P acc n →
      Q₁ (.ref h'.objs.size) { s with heap := h'.push { cls := .type "tuple", data := .seq acc }, toks := tk }) :
    codeAny (model prog w) A (.call (.builtin "tuple.__new__") ⟨[.type "tuple", .ref r], []⟩) (wants Q₁ E) s := by
  refine codeAny_of_tree ?_
  show wpAny _ A.in1 (do checkBuiltinCall "tuple.__new__" ⟨[.type "tuple", .ref r], []⟩; again (.builtin "tuple.__new__" ⟨[.type "tuple", .ref r], []⟩)) _ _ s
  refine wpAny_bind (wpAny_of_eq (F.newCall_tuple_1 _) (wpAny_pure ⟨plainId_quiet F.plain_tuple_new _, codeAny_builtin F.entry_tuple_new ?_⟩))
  rw [Around.under_plainId F.plain_tuple_new _]
  have hsub := sub_tuple_self
  have hinit := init_tuple_lookup
  have hmh := madeHere_tuple
  have hTI : s.TypeIs (.ref r) "dict" := K.type s hok
  have hh1 : A.in1.handled = none := hh
  wp_walk using wpAny_typeOf hTI, PySem.W.kdu_collect (A := A.in1) K hh1 hok hn
  intro h' tk acc hk hacc
  show wpAny _ _ (Builtin.Tuple.tupleExact acc.toList.toArray >>= fun v => ret v) _ _ _
  unfold Builtin.Tuple.tupleExact
  refine wpAny_bind (wpAny_newObj_type ?_ (by show acc.toList.toArray.size ≤ sizeLine; simp only [Array.toArray_toList]; rw [hacc.1]; exact hn))
  refine wpAny_pure ?_
  have e : acc.toList.toArray = acc := by simp
  rw [e]
  exact h h' tk acc hk hacc
theorem call_tuple_dict {Q : Value → Shared → Prop} (K : PySem.W.KdlSrc prog w "dict" r d n P OK) (hh : A.handled = none) (hok : OK s.heap) (hn : n ≤ sizeLine)
    (hQ : ∀ (h' : Heap) (tk : Nat) (acc : Array Value), (∀ b o, s.heap.get? b = some o → h'.get? b = some o) → ItemsOf P acc n →
      Q (.ref h'.objs.size) { s with heap := h'.push { cls := .type "tuple", data := .seq acc }, toks := tk }) :
    wpAny (model prog w) A (call (.type "tuple") [.ref r]) Q E s := by
  refine callType_codes (Q₁ := fun obj s₁ => s₁.TypeIs obj "tuple" ∧ Q obj s₁) F.called_tuple (F.typeCall_tuple_1 _) F.entry_object_init
    (code_tuple_new_dict (A := A.in1) K hh hok hn fun h' tk acc hk hacc => ⟨⟨_, Heap.get?_push_size _ rfl, rfl⟩, hQ h' tk acc hk hacc⟩) fun obj s₁ h₁ => ?_
  exact ⟨h₁.1, F.args_object_init_2 obj _, object_init_meets F.called_tuple.init.lookup F.called_tuple.made (by decide) prog w A.in1 _ s₁ ⟨h₁.1, rfl, h₁.2⟩⟩
end
section
variable {X : Cx}
theorem call_tupleD (hcalm : X.calm = true) : CallR X (.type "tuple") (fun xs H Q => ∃ (a : Addr) (kvs : List (Key × V)), xs = [.ref a] ∧ Rd H a (.dK kvs) ∧ ∀ p, H p = none → Q (.ref p) (upd H p (.tup (kvs.map fun kv => kV kv.1)))) := by
  intro pins s σ H xs us Q I r q
  obtain ⟨a, kvs, ex, hd, q⟩ := q
  subst ex
  obtain ⟨u, eu, rx⟩ := vals1 r
  subst eu
  cases rx
  obtain ⟨z, lo, vs, rel, dd⟩ := dk_rd I.hok hd
  obtain ⟨ep, hat⟩ := dd.dictAt
  have ek : (kvs.map fun kv => kV kv.1) = vs.map fun p => kV p.1 := by
    have e := congrArg (List.map kV) rel.keys
    rw [List.map_map, List.map_map] at e
    exact e
  refine call_tuple_dict (PySem.W.kdl_dict (knd := mixKind X.prog X.w) (kvs := vs) (ep := ep) lo) (I.ok.hd hcalm) hat (by rw [← rel.length]; exact z) fun h' tk acc hk hacc => ?_
  have hv : Vals (vs.map fun p => kV p.1) acc.toList := keys_at (by rw [Array.length_toList]; exact hacc.1) fun j v e => hacc.2 j v (by rw [← Array.getElem?_toList]; exact e)
  have I1 : Inv X pins σ H { s with heap := h', toks := tk } := I.kept (t' := tk) hk
  have I2 : Inv X pins σ (upd H h'.objs.size (.tup (kvs.map fun kv => kV kv.1))) { s with heap := h'.push { cls := .type "tuple", data := .seq acc }, toks := tk } :=
    I1.laid (t' := tk) (fun b o e => Heap.get?_push_of_some _ e) (Nat.le_refl _) (show ObjOk X.prog X.w _ _ _ (.tup (kvs.map fun kv => kV kv.1)) from ⟨by rw [List.length_map]; exact z, acc.toList, by rw [ek]; exact hv, by rw [Array.toArray_toList]; exact IsTup.new _ _⟩)
  exact ⟨.ref h'.objs.size, _, I2, rfl, q _ (I1.hok.fresh (Nat.le_refl _))⟩
end
end So

namespace K13
open PySem PySem.Spec PyProof.Rows L2 So
/-! ### what rows exclude -/
abbrev Sg := Str × Int × Bool
def SgAt (C : Addr) (H : Hp) (a : Addr) (x : Sg) : Prop := At C H a x.1 x.2.1 x.2.2
theorem SgAt.same {C : Addr} {H H' : Hp} {a : Addr} {x : Sg} (h : SgAt C H a x) (s : Same H H') : SgAt C H' a x := At.same h s
/-- a pair of sayings -/
def PairAt (C : Addr) (H : Hp) (v : V) (p : Sg × Sg) : Prop := ∃ t a b : Addr, v = .ref t ∧ H t = some (.tup [.ref a, .ref b]) ∧ SgAt C H a p.1 ∧ SgAt C H b p.2
theorem PairAt.same {C : Addr} {H H' : Hp} {v : V} {p : Sg × Sg} (h : PairAt C H v p) (s : Same H H') : PairAt C H' v p := by
  obtain ⟨t, a, b, h1, h2, h3, h4⟩ := h
  exact ⟨t, a, b, h1, s _ _ h2, h3.same s, h4.same s⟩
def Mom (m : Int) : Prop := 0 ≤ m ∧ m ≤ 1000000000000000000000000000000
/-- the last moments of lives with these beginnings -/
def lastsOf (fs : List Int) : List Int := (fs.drop 1).map (· - 1) ++ [1000000000000000000000000000000]
def lastsF (F : Str → Option (List Int)) (z : Str) : List Int := match F z with
  | some ns => lastsOf ns
  | none => []
/-- the pairs of a row -/
def pairsOf (L : Str → List Int) (kind : Str) : List V → List (Sg × Sg)
  | [.str z] => (L z).map fun m => ((z, m, false), (z, m, false))
  | [.str z, .int m, .bl b] => [((z, m, !b), (z, m, !b))]
  | [.str z, .int m, .str y] => if kind = "setby" then [((z, m, true), (y, m, false))] else [((y, m, true), (z, m, decide (V.str kind = V.str "failed")))]
  | [.str z, .int m, .str y, .int k] => if kind = "agreed" then [((z, m, true), (y, k, false)), ((z, m, false), (y, k, true))] else if kind = "differed" then [((z, m, true), (y, k, true))]
    else if kind = "served" then [((z, m, false), (y, k, false))] else [((z, m, true), (y, k, false))]
  | _ => []
theorem pairs3 {L : Str → List Int} {kind z y : Str} {m : Int} : pairsOf L kind [.str z, .int m, .str y] = if kind = "setby" then [((z, m, true), (y, m, false))] else [((y, m, true), (z, m, decide (V.str kind = V.str "failed")))] := rfl
theorem pairs4 {L : Str → List Int} {kind z y : Str} {m k : Int} : pairsOf L kind [.str z, .int m, .str y, .int k] = if kind = "agreed" then [((z, m, true), (y, k, false)), ((z, m, false), (y, k, true))] else if kind = "differed" then [((z, m, true), (y, k, true))]
    else if kind = "served" then [((z, m, false), (y, k, false))] else [((z, m, true), (y, k, false))] := rfl
theorem nam_of {v : V} (h : okF "name" v = true ∧ Flat1 v) : ∃ z, v = .str z ∧ isName z = true := by
  obtain ⟨h1, h2⟩ := h
  rw [okF_n] at h1
  cases h2 with
  | nam e => exact ⟨_, rfl, e⟩
  | mom e => cases h1
  | tru b => cases h1
theorem mom_of {v : V} (h : (okF "moment" v = true ∨ okF "beginning" v = true) ∧ Flat1 v) : ∃ i, v = .int i ∧ Mom i := by
  obtain ⟨h1, h2⟩ := h
  rw [okF_m, okF_b] at h1
  cases h2 with
  | nam e => rcases h1 with h1 | h1 <;> cases h1
  | mom e => exact ⟨_, rfl, e⟩
  | tru b => rcases h1 with h1 | h1 <;> cases h1
theorem tru_of {v : V} (h : okF "truth" v = true ∧ Flat1 v) : ∃ b, v = .bl b := by
  obtain ⟨h1, h2⟩ := h
  rw [okF_t] at h1
  cases h2 with
  | nam e => cases h1
  | mom e => cases h1
  | tru b => exact ⟨b, rfl⟩
theorem sh1 {kind : Str} {xs : List V} (h : FlatRow kind xs) (e : formsOf kind = (["name"] : List Str)) : ∃ z, xs = [.str z] ∧ isName z = true := by
  obtain ⟨hl, hq⟩ := h
  rw [e] at hl hq
  match xs, hl with
  | [a], _ =>
    simp only [List.zip_cons_cons, List.zip_nil_right, List.forall_mem_cons] at hq
    obtain ⟨z, rfl, h1⟩ := nam_of hq.1
    exact ⟨z, rfl, h1⟩
theorem sh2 {kind : Str} {xs : List V} (h : FlatRow kind xs) (e : formsOf kind = (["name", "beginning"] : List Str)) : ∃ z m, xs = [.str z, .int m] ∧ isName z = true ∧ Mom m := by
  obtain ⟨hl, hq⟩ := h
  rw [e] at hl hq
  match xs, hl with
  | [a, b], _ =>
    simp only [List.zip_cons_cons, List.zip_nil_right, List.forall_mem_cons] at hq
    obtain ⟨z, rfl, h1⟩ := nam_of hq.1
    obtain ⟨m, rfl, h2⟩ := mom_of ⟨.inr hq.2.1.1, hq.2.1.2⟩
    exact ⟨z, m, rfl, h1, h2⟩
theorem sh3 {kind : Str} {xs : List V} (h : FlatRow kind xs) (e : formsOf kind = (["name", "beginning", "name"] : List Str) ∨ formsOf kind = (["name", "moment", "name"] : List Str)) : ∃ z m y, xs = [.str z, .int m, .str y] ∧ isName z = true ∧ Mom m ∧ isName y = true := by
  obtain ⟨hl, hq⟩ := h
  have key : ∀ f, (f = "moment" ∨ f = "beginning") → formsOf kind = (["name", f, "name"] : List Str) → ∃ z m y, xs = [.str z, .int m, .str y] ∧ isName z = true ∧ Mom m ∧ isName y = true := by
    intro f hf e
    rw [e] at hl hq
    match xs, hl with
    | [a, b, c], _ =>
      simp only [List.zip_cons_cons, List.zip_nil_right, List.forall_mem_cons] at hq
      obtain ⟨z, rfl, h1⟩ := nam_of hq.1
      obtain ⟨m, rfl, h2⟩ := mom_of ⟨by rcases hf with rfl | rfl; exact .inl hq.2.1.1; exact .inr hq.2.1.1, hq.2.1.2⟩
      obtain ⟨y, rfl, h3⟩ := nam_of hq.2.2.1
      exact ⟨z, m, y, rfl, h1, h2, h3⟩
  rcases e with e | e
  · exact key _ (.inr rfl) e
  · exact key _ (.inl rfl) e
theorem shT {kind : Str} {xs : List V} (h : FlatRow kind xs) (e : formsOf kind = (["name", "moment", "truth"] : List Str)) : ∃ z m b, xs = [.str z, .int m, .bl b] ∧ isName z = true ∧ Mom m := by
  obtain ⟨hl, hq⟩ := h
  rw [e] at hl hq
  match xs, hl with
  | [a, b, c], _ =>
    simp only [List.zip_cons_cons, List.zip_nil_right, List.forall_mem_cons] at hq
    obtain ⟨z, rfl, h1⟩ := nam_of hq.1
    obtain ⟨m, rfl, h2⟩ := mom_of ⟨.inl hq.2.1.1, hq.2.1.2⟩
    obtain ⟨b, rfl⟩ := tru_of hq.2.2.1
    exact ⟨z, m, b, rfl, h1, h2⟩
theorem sh4 {kind : Str} {xs : List V} (h : FlatRow kind xs) (e : formsOf kind = (["name", "moment", "name", "moment"] : List Str)) : ∃ z m y k, xs = [.str z, .int m, .str y, .int k] ∧ isName z = true ∧ Mom m ∧ isName y = true ∧ Mom k := by
  obtain ⟨hl, hq⟩ := h
  rw [e] at hl hq
  match xs, hl with
  | [a, b, c, d], _ =>
    simp only [List.zip_cons_cons, List.zip_nil_right, List.forall_mem_cons] at hq
    obtain ⟨z, rfl, h1⟩ := nam_of hq.1
    obtain ⟨m, rfl, h2⟩ := mom_of ⟨.inl hq.2.1.1, hq.2.1.2⟩
    obtain ⟨y, rfl, h3⟩ := nam_of hq.2.2.1
    obtain ⟨k, rfl, h4⟩ := mom_of ⟨.inl hq.2.2.2.1.1, hq.2.2.2.1.2⟩
    exact ⟨z, m, y, k, rfl, h1, h2, h3, h4⟩
section
variable {P : Program} {w : World} {K : PySem.W.Frag} {mg : Str → Option Value} {base : Heap}
/-- behind Saying(z, m, b) of a name and a moment -/
theorem initS {CN CM CS C x dx : Addr} {z : Str} {m : Int} {b : Bool} {H1 : Hp} {Q : VK} {E : XK} (hx : H1 x = none) (hd : H1 dx = none) (hz : isName z = true) (hm : Mom m) (q : ∀ (H' : Hp), Same H1 H' → At C H' x z m b → Q .non H') :
    spInit CN CM CS C [.ref x, .str z, .int m, .bl b] (upd (upd H1 dx (.own x)) x (.ins C dx [])) Q E := by
  have s0 : Same H1 (upd (upd H1 dx (.own x)) x (.ins C dx [])) := fun c o e => by
    rw [upd_ne (ne_of_none e hx), upd_ne (ne_of_none e hd)]
    exact e
  refine ⟨x, dx, .str z, .int m, .bl b, _, _, _, rfl, upd_same, .str z (Nat.le_trans (name_len hz) (by decide)), .int m, .bl b, Ways.ok hz hm fun H' o e => q H' (fun c u g => ?_) ⟨dx, e⟩⟩
  exact o c u (ne_of_none g hx) (s0 c u g)
def spEx (K : PySem.W.Frag) (Cf : Str → Addr) (CY CV : Addr) (kind : Str) : Sp := fun vs H Q _ => ∃ (a lv : Addr) (xs : List V) (F : Str → Option (List Int)), vs = [.ref a, .ref lv] ∧ FlatRow kind xs ∧ RowAt Cf H a kind xs ∧ LvAt CV H lv F ∧ FOk F ∧ (∀ z ∈ strsOf xs, (F z).isSome = true) ∧
  ∀ (H' : Hp) (l : Addr) (us : List V), Same H H' → H' l = some (.lst us) → Paired (PairAt CY H') us (pairsOf (lastsF F) kind xs) → Q (.ref l) H'
/-- what the text needs of Saying -/
structure SayM (P : Program) (w : World) (K : PySem.W.Frag) (mg : Str → Option Value) (base : Heap) (CN CM CS CY fI : Addr) (fdI : FuncData) : Prop where
  T : Say K mg CY
  M : Mk K CY fI
  b : Binds K fdI ["self", "tool", "moment", "is_sound"] []
  G : FnOk P w K mg base (L2.CX P w) 4 fI fdI ["self", "tool", "moment", "is_sound"] (spInit CN CM CS CY)

abbrev sXBegun : Stmt := inClass (topS 36) 1
theorem scXBegun : FnScope ["self", "lives"] ["self", "lives"] (defScope sXBegun) := ⟨rfl, rfl, rfl, by decide +kernel, rfl, by decide +kernel, by decide +kernel⟩
theorem ok_xBegun {Cf : Str → Addr} {CR CN CM CS CY CV f fI : Addr} {fd fdI : FuncData} (F : Fun K "_excluded" "Begun._excluded" sXBegun f fd) (R : RowsC K mg Cf CR) (S : SayM P w K mg base CN CM CS CY fI fdI) : FnOk P w K mg base CX0 8 f fd ["self", "lives"] (spEx K Cf CY CV "begun") := by
  refine F.ok scXBegun (fun vs H Q E h => ?_) (fun cdv A outer s H vs Q E hr h => ?_)
  · obtain ⟨_, _, _, _, rfl, _⟩ := h
    rfl
  · obtain ⟨a, lv, xs, F0, rfl, hf, hA, hL, hO, hT, q⟩ := h
    have hk : ("begun" : Str) ∈ kinds := by decide +kernel
    obtain ⟨z, m, rfl, hz, hm⟩ := sh2 hf (by decide +kernel)
    obtain ⟨dx, fs, ha, tl⟩ := id hA
    have lt := tl.2.2.1
    rw [attrs_begun] at lt
    simp only [List.zip_cons_cons, List.zip_nil_right, List.forall_mem_cons] at lt
    obtain ⟨l0, l1, _⟩ := lt
    have no := (R.c "begun" hk).no
    rw [attrs_begun] at no
    simp only [List.forall_mem_cons] at no
    obtain ⟨_, _, n0, n1, _⟩ := no
    have cl := (R.c "begun" hk).cl
    have hr6 : Room 6 _ := hr.mono (by decide)
    have hr5 : Room 5 _ := hr.mono (by decide)
    refine ⟨_, pss_one (ps_ret (pe_lst pa_nil)), ?_⟩
    exact ⟨by show 0 ≤ sizeLine; decide, fun l hl => q _ l [] (same_upd0 hl) upd_same .nil⟩
abbrev sXSetBy : Stmt := inClass (topS 37) 1
theorem scXSetBy : FnScope ["self", "lives"] ["self", "lives"] (defScope sXSetBy) := ⟨rfl, rfl, rfl, by decide +kernel, rfl, by decide +kernel, by decide +kernel⟩
theorem ok_xSetBy {Cf : Str → Addr} {CR CN CM CS CY CV f fI : Addr} {fd fdI : FuncData} (F : Fun K "_excluded" "SetBy._excluded" sXSetBy f fd) (R : RowsC K mg Cf CR) (S : SayM P w K mg base CN CM CS CY fI fdI) : FnOk P w K mg base CX0 8 f fd ["self", "lives"] (spEx K Cf CY CV "setby") := by
  refine F.ok scXSetBy (fun vs H Q E h => ?_) (fun cdv A outer s H vs Q E hr h => ?_)
  · obtain ⟨_, _, _, _, rfl, _⟩ := h
    rfl
  · obtain ⟨a, lv, xs, F0, rfl, hf, hA, hL, hO, hT, q⟩ := h
    have hk : ("setby" : Str) ∈ kinds := by decide +kernel
    obtain ⟨z, m, y, rfl, hz, hm, hy⟩ := sh3 hf (.inl (by decide +kernel))
    obtain ⟨dx, fs, ha, tl⟩ := id hA
    have lt := tl.2.2.1
    rw [attrs_setby] at lt
    simp only [List.zip_cons_cons, List.zip_nil_right, List.forall_mem_cons] at lt
    obtain ⟨l0, l1, l2, _⟩ := lt
    have no := (R.c "setby" hk).no
    rw [attrs_setby] at no
    simp only [List.forall_mem_cons] at no
    obtain ⟨_, _, n0, n1, n2, _⟩ := no
    have cl := (R.c "setby" hk).cl
    have hr6 : Room 6 _ := hr.mono (by decide)
    have hr5 : Room 5 _ := hr.mono (by decide)
    refine ⟨_, pss_one (ps_ret (pe_lst (pa_cons (pe_tup (pa_cons (pe_make S.M S.G hr5 (by rfl) S.T.mgC S.b .nil passNo (pa_cons (pe_fld (pv 0) rfl) (pa_cons (pe_fld (pv 0) rfl) (pa_cons pe_bl pa_nil)))) (pa_cons (pe_make S.M S.G hr5 (by rfl) S.T.mgC S.b .nil passNo (pa_cons (pe_fld (pv 0) rfl) (pa_cons (pe_fld (pv 0) rfl) (pa_cons pe_bl pa_nil)))) pa_nil))) pa_nil))), ?_⟩
    refine ⟨_, rfl, a, Cf "setby", dx, _, _, rfl, ha, cl, n0, l0, _, rfl, a, Cf "setby", dx, _, _, rfl, ha, cl, n1, l1, fun o1 d_o1 nx_o1 nd_o1 ne_o1 => initS nx_o1 nd_o1 hz hm fun H1 s1 A1 => ⟨rfl, ?_⟩⟩
    have ha1 := s1 _ _ ha
    refine ⟨_, rfl, a, Cf "setby", dx, _, _, rfl, ha1, cl, n2, l2, _, rfl, a, Cf "setby", dx, _, _, rfl, ha1, cl, n1, l1, fun o2 d_o2 nx_o2 nd_o2 ne_o2 => initS nx_o2 nd_o2 hy hm fun H2 s2 A2 => ⟨rfl, ?_⟩⟩
    refine ⟨by show 2 ≤ sizeLine; decide, fun t ht => ⟨by show 1 ≤ sizeLine; decide, fun l hl => ?_⟩⟩
    have s3 := (same_upd0 (o := .tup [.ref o1, .ref o2]) ht).trans (same_upd0 (o := .lst [.ref t]) hl)
    refine q _ l [.ref t] ((s1.trans s2).trans s3) upd_same ?_
    rw [pairs3, if_pos rfl]
    exact .cons ⟨t, o1, o2, rfl, same_upd0 hl _ _ upd_same, At.same A1 (s2.trans s3), At.same A2 s3⟩ .nil
abbrev sXPassed : Stmt := inClass (topS 40) 1
theorem scXPassed : FnScope ["self", "lives"] ["self", "lives"] (defScope sXPassed) := ⟨rfl, rfl, rfl, by decide +kernel, rfl, by decide +kernel, by decide +kernel⟩
theorem ok_xPassed {Cf : Str → Addr} {CR CN CM CS CY CV f fI : Addr} {fd fdI : FuncData} (F : Fun K "_excluded" "Passed._excluded" sXPassed f fd) (R : RowsC K mg Cf CR) (S : SayM P w K mg base CN CM CS CY fI fdI) : FnOk P w K mg base CX0 8 f fd ["self", "lives"] (spEx K Cf CY CV "passed") := by
  refine F.ok scXPassed (fun vs H Q E h => ?_) (fun cdv A outer s H vs Q E hr h => ?_)
  · obtain ⟨_, _, _, _, rfl, _⟩ := h
    rfl
  · obtain ⟨a, lv, xs, F0, rfl, hf, hA, hL, hO, hT, q⟩ := h
    have hk : ("passed" : Str) ∈ kinds := by decide +kernel
    obtain ⟨z, m, y, rfl, hz, hm, hy⟩ := sh3 hf (.inr (by decide +kernel))
    obtain ⟨dx, fs, ha, tl⟩ := id hA
    have lt := tl.2.2.1
    rw [attrs_passed] at lt
    simp only [List.zip_cons_cons, List.zip_nil_right, List.forall_mem_cons] at lt
    obtain ⟨l0, l1, l2, _⟩ := lt
    have no := (R.c "passed" hk).no
    rw [attrs_passed] at no
    simp only [List.forall_mem_cons] at no
    obtain ⟨_, _, n0, n1, n2, _⟩ := no
    have cl := (R.c "passed" hk).cl
    have hr6 : Room 6 _ := hr.mono (by decide)
    have hr5 : Room 5 _ := hr.mono (by decide)
    refine ⟨_, pss_one (ps_ret (pe_lst (pa_cons (pe_tup (pa_cons (pe_make S.M S.G hr5 (by rfl) S.T.mgC S.b .nil passNo (pa_cons (pe_fld (pv 0) rfl) (pa_cons (pe_fld (pv 0) rfl) (pa_cons pe_bl pa_nil)))) (pa_cons (pe_make S.M S.G hr5 (by rfl) S.T.mgC S.b .nil passNo (pa_cons (pe_fld (pv 0) rfl) (pa_cons (pe_fld (pv 0) rfl) (pa_cons pe_bl pa_nil)))) pa_nil))) pa_nil))), ?_⟩
    refine ⟨_, rfl, a, Cf "passed", dx, _, _, rfl, ha, cl, n2, l2, _, rfl, a, Cf "passed", dx, _, _, rfl, ha, cl, n1, l1, fun o1 d_o1 nx_o1 nd_o1 ne_o1 => initS nx_o1 nd_o1 hy hm fun H1 s1 A1 => ⟨rfl, ?_⟩⟩
    have ha1 := s1 _ _ ha
    refine ⟨_, rfl, a, Cf "passed", dx, _, _, rfl, ha1, cl, n0, l0, _, rfl, a, Cf "passed", dx, _, _, rfl, ha1, cl, n1, l1, fun o2 d_o2 nx_o2 nd_o2 ne_o2 => initS nx_o2 nd_o2 hz hm fun H2 s2 A2 => ⟨rfl, ?_⟩⟩
    refine ⟨by show 2 ≤ sizeLine; decide, fun t ht => ⟨by show 1 ≤ sizeLine; decide, fun l hl => ?_⟩⟩
    have s3 := (same_upd0 (o := .tup [.ref o1, .ref o2]) ht).trans (same_upd0 (o := .lst [.ref t]) hl)
    refine q _ l [.ref t] ((s1.trans s2).trans s3) upd_same ?_
    rw [pairs3, if_neg (by decide +kernel), show decide (V.str "passed" = V.str "failed") = false by decide +kernel]
    exact .cons ⟨t, o1, o2, rfl, same_upd0 hl _ _ upd_same, At.same A1 (s2.trans s3), At.same A2 s3⟩ .nil
abbrev sXFailed : Stmt := inClass (topS 41) 1
theorem scXFailed : FnScope ["self", "lives"] ["self", "lives"] (defScope sXFailed) := ⟨rfl, rfl, rfl, by decide +kernel, rfl, by decide +kernel, by decide +kernel⟩
theorem ok_xFailed {Cf : Str → Addr} {CR CN CM CS CY CV f fI : Addr} {fd fdI : FuncData} (F : Fun K "_excluded" "Failed._excluded" sXFailed f fd) (R : RowsC K mg Cf CR) (S : SayM P w K mg base CN CM CS CY fI fdI) : FnOk P w K mg base CX0 8 f fd ["self", "lives"] (spEx K Cf CY CV "failed") := by
  refine F.ok scXFailed (fun vs H Q E h => ?_) (fun cdv A outer s H vs Q E hr h => ?_)
  · obtain ⟨_, _, _, _, rfl, _⟩ := h
    rfl
  · obtain ⟨a, lv, xs, F0, rfl, hf, hA, hL, hO, hT, q⟩ := h
    have hk : ("failed" : Str) ∈ kinds := by decide +kernel
    obtain ⟨z, m, y, rfl, hz, hm, hy⟩ := sh3 hf (.inr (by decide +kernel))
    obtain ⟨dx, fs, ha, tl⟩ := id hA
    have lt := tl.2.2.1
    rw [attrs_failed] at lt
    simp only [List.zip_cons_cons, List.zip_nil_right, List.forall_mem_cons] at lt
    obtain ⟨l0, l1, l2, _⟩ := lt
    have no := (R.c "failed" hk).no
    rw [attrs_failed] at no
    simp only [List.forall_mem_cons] at no
    obtain ⟨_, _, n0, n1, n2, _⟩ := no
    have cl := (R.c "failed" hk).cl
    have hr6 : Room 6 _ := hr.mono (by decide)
    have hr5 : Room 5 _ := hr.mono (by decide)
    refine ⟨_, pss_one (ps_ret (pe_lst (pa_cons (pe_tup (pa_cons (pe_make S.M S.G hr5 (by rfl) S.T.mgC S.b .nil passNo (pa_cons (pe_fld (pv 0) rfl) (pa_cons (pe_fld (pv 0) rfl) (pa_cons pe_bl pa_nil)))) (pa_cons (pe_make S.M S.G hr5 (by rfl) S.T.mgC S.b .nil passNo (pa_cons (pe_fld (pv 0) rfl) (pa_cons (pe_fld (pv 0) rfl) (pa_cons pe_bl pa_nil)))) pa_nil))) pa_nil))), ?_⟩
    refine ⟨_, rfl, a, Cf "failed", dx, _, _, rfl, ha, cl, n2, l2, _, rfl, a, Cf "failed", dx, _, _, rfl, ha, cl, n1, l1, fun o1 d_o1 nx_o1 nd_o1 ne_o1 => initS nx_o1 nd_o1 hy hm fun H1 s1 A1 => ⟨rfl, ?_⟩⟩
    have ha1 := s1 _ _ ha
    refine ⟨_, rfl, a, Cf "failed", dx, _, _, rfl, ha1, cl, n0, l0, _, rfl, a, Cf "failed", dx, _, _, rfl, ha1, cl, n1, l1, fun o2 d_o2 nx_o2 nd_o2 ne_o2 => initS nx_o2 nd_o2 hz hm fun H2 s2 A2 => ⟨rfl, ?_⟩⟩
    refine ⟨by show 2 ≤ sizeLine; decide, fun t ht => ⟨by show 1 ≤ sizeLine; decide, fun l hl => ?_⟩⟩
    have s3 := (same_upd0 (o := .tup [.ref o1, .ref o2]) ht).trans (same_upd0 (o := .lst [.ref t]) hl)
    refine q _ l [.ref t] ((s1.trans s2).trans s3) upd_same ?_
    rw [pairs3, if_neg (by decide +kernel), show decide (V.str "failed" = V.str "failed") = true by decide +kernel]
    exact .cons ⟨t, o1, o2, rfl, same_upd0 hl _ _ upd_same, At.same A1 (s2.trans s3), At.same A2 s3⟩ .nil
abbrev sXDiffered : Stmt := inClass (topS 43) 1
theorem scXDiffered : FnScope ["self", "lives"] ["self", "lives"] (defScope sXDiffered) := ⟨rfl, rfl, rfl, by decide +kernel, rfl, by decide +kernel, by decide +kernel⟩
theorem ok_xDiffered {Cf : Str → Addr} {CR CN CM CS CY CV f fI : Addr} {fd fdI : FuncData} (F : Fun K "_excluded" "Differed._excluded" sXDiffered f fd) (R : RowsC K mg Cf CR) (S : SayM P w K mg base CN CM CS CY fI fdI) : FnOk P w K mg base CX0 8 f fd ["self", "lives"] (spEx K Cf CY CV "differed") := by
  refine F.ok scXDiffered (fun vs H Q E h => ?_) (fun cdv A outer s H vs Q E hr h => ?_)
  · obtain ⟨_, _, _, _, rfl, _⟩ := h
    rfl
  · obtain ⟨a, lv, xs, F0, rfl, hf, hA, hL, hO, hT, q⟩ := h
    have hk : ("differed" : Str) ∈ kinds := by decide +kernel
    obtain ⟨z, m, y, k2, rfl, hz, hm, hy, hk2⟩ := sh4 hf (by decide +kernel)
    obtain ⟨dx, fs, ha, tl⟩ := id hA
    have lt := tl.2.2.1
    rw [(attrs_meet "differed" (by decide +kernel))] at lt
    simp only [List.zip_cons_cons, List.zip_nil_right, List.forall_mem_cons] at lt
    obtain ⟨l0, l1, l2, l3, _⟩ := lt
    have no := (R.c "differed" hk).no
    rw [(attrs_meet "differed" (by decide +kernel))] at no
    simp only [List.forall_mem_cons] at no
    obtain ⟨_, _, n0, n1, n2, n3, _⟩ := no
    have cl := (R.c "differed" hk).cl
    have hr6 : Room 6 _ := hr.mono (by decide)
    have hr5 : Room 5 _ := hr.mono (by decide)
    refine ⟨_, pss_one (ps_ret (pe_lst (pa_cons (pe_tup (pa_cons (pe_make S.M S.G hr5 (by rfl) S.T.mgC S.b .nil passNo (pa_cons (pe_fld (pv 0) rfl) (pa_cons (pe_fld (pv 0) rfl) (pa_cons pe_bl pa_nil)))) (pa_cons (pe_make S.M S.G hr5 (by rfl) S.T.mgC S.b .nil passNo (pa_cons (pe_fld (pv 0) rfl) (pa_cons (pe_fld (pv 0) rfl) (pa_cons pe_bl pa_nil)))) pa_nil))) pa_nil))), ?_⟩
    refine ⟨_, rfl, a, Cf "differed", dx, _, _, rfl, ha, cl, n0, l0, _, rfl, a, Cf "differed", dx, _, _, rfl, ha, cl, n1, l1, fun o1 d_o1 nx_o1 nd_o1 ne_o1 => initS nx_o1 nd_o1 hz hm fun H1 s1 A1 => ⟨rfl, ?_⟩⟩
    have ha1 := s1 _ _ ha
    refine ⟨_, rfl, a, Cf "differed", dx, _, _, rfl, ha1, cl, n2, l2, _, rfl, a, Cf "differed", dx, _, _, rfl, ha1, cl, n3, l3, fun o2 d_o2 nx_o2 nd_o2 ne_o2 => initS nx_o2 nd_o2 hy hk2 fun H2 s2 A2 => ⟨rfl, ?_⟩⟩
    refine ⟨by show 2 ≤ sizeLine; decide, fun t ht => ⟨by show 1 ≤ sizeLine; decide, fun l hl => ?_⟩⟩
    have s3 := (same_upd0 (o := .tup [.ref o1, .ref o2]) ht).trans (same_upd0 (o := .lst [.ref t]) hl)
    refine q _ l [.ref t] ((s1.trans s2).trans s3) upd_same ?_
    rw [pairs4, if_neg (by decide +kernel), if_pos rfl]
    exact .cons ⟨t, o1, o2, rfl, same_upd0 hl _ _ upd_same, At.same A1 (s2.trans s3), At.same A2 s3⟩ .nil
abbrev sXServed : Stmt := inClass (topS 44) 1
theorem scXServed : FnScope ["self", "lives"] ["self", "lives"] (defScope sXServed) := ⟨rfl, rfl, rfl, by decide +kernel, rfl, by decide +kernel, by decide +kernel⟩
theorem ok_xServed {Cf : Str → Addr} {CR CN CM CS CY CV f fI : Addr} {fd fdI : FuncData} (F : Fun K "_excluded" "Served._excluded" sXServed f fd) (R : RowsC K mg Cf CR) (S : SayM P w K mg base CN CM CS CY fI fdI) : FnOk P w K mg base CX0 8 f fd ["self", "lives"] (spEx K Cf CY CV "served") := by
  refine F.ok scXServed (fun vs H Q E h => ?_) (fun cdv A outer s H vs Q E hr h => ?_)
  · obtain ⟨_, _, _, _, rfl, _⟩ := h
    rfl
  · obtain ⟨a, lv, xs, F0, rfl, hf, hA, hL, hO, hT, q⟩ := h
    have hk : ("served" : Str) ∈ kinds := by decide +kernel
    obtain ⟨z, m, y, k2, rfl, hz, hm, hy, hk2⟩ := sh4 hf (by decide +kernel)
    obtain ⟨dx, fs, ha, tl⟩ := id hA
    have lt := tl.2.2.1
    rw [(attrs_meet "served" (by decide +kernel))] at lt
    simp only [List.zip_cons_cons, List.zip_nil_right, List.forall_mem_cons] at lt
    obtain ⟨l0, l1, l2, l3, _⟩ := lt
    have no := (R.c "served" hk).no
    rw [(attrs_meet "served" (by decide +kernel))] at no
    simp only [List.forall_mem_cons] at no
    obtain ⟨_, _, n0, n1, n2, n3, _⟩ := no
    have cl := (R.c "served" hk).cl
    have hr6 : Room 6 _ := hr.mono (by decide)
    have hr5 : Room 5 _ := hr.mono (by decide)
    refine ⟨_, pss_one (ps_ret (pe_lst (pa_cons (pe_tup (pa_cons (pe_make S.M S.G hr5 (by rfl) S.T.mgC S.b .nil passNo (pa_cons (pe_fld (pv 0) rfl) (pa_cons (pe_fld (pv 0) rfl) (pa_cons pe_bl pa_nil)))) (pa_cons (pe_make S.M S.G hr5 (by rfl) S.T.mgC S.b .nil passNo (pa_cons (pe_fld (pv 0) rfl) (pa_cons (pe_fld (pv 0) rfl) (pa_cons pe_bl pa_nil)))) pa_nil))) pa_nil))), ?_⟩
    refine ⟨_, rfl, a, Cf "served", dx, _, _, rfl, ha, cl, n0, l0, _, rfl, a, Cf "served", dx, _, _, rfl, ha, cl, n1, l1, fun o1 d_o1 nx_o1 nd_o1 ne_o1 => initS nx_o1 nd_o1 hz hm fun H1 s1 A1 => ⟨rfl, ?_⟩⟩
    have ha1 := s1 _ _ ha
    refine ⟨_, rfl, a, Cf "served", dx, _, _, rfl, ha1, cl, n2, l2, _, rfl, a, Cf "served", dx, _, _, rfl, ha1, cl, n3, l3, fun o2 d_o2 nx_o2 nd_o2 ne_o2 => initS nx_o2 nd_o2 hy hk2 fun H2 s2 A2 => ⟨rfl, ?_⟩⟩
    refine ⟨by show 2 ≤ sizeLine; decide, fun t ht => ⟨by show 1 ≤ sizeLine; decide, fun l hl => ?_⟩⟩
    have s3 := (same_upd0 (o := .tup [.ref o1, .ref o2]) ht).trans (same_upd0 (o := .lst [.ref t]) hl)
    refine q _ l [.ref t] ((s1.trans s2).trans s3) upd_same ?_
    rw [pairs4, if_neg (by decide +kernel), if_neg (by decide +kernel), if_pos rfl]
    exact .cons ⟨t, o1, o2, rfl, same_upd0 hl _ _ upd_same, At.same A1 (s2.trans s3), At.same A2 s3⟩ .nil
abbrev sXBacked : Stmt := inClass (topS 45) 1
theorem scXBacked : FnScope ["self", "lives"] ["self", "lives"] (defScope sXBacked) := ⟨rfl, rfl, rfl, by decide +kernel, rfl, by decide +kernel, by decide +kernel⟩
theorem ok_xBacked {Cf : Str → Addr} {CR CN CM CS CY CV f fI : Addr} {fd fdI : FuncData} (F : Fun K "_excluded" "Backed._excluded" sXBacked f fd) (R : RowsC K mg Cf CR) (S : SayM P w K mg base CN CM CS CY fI fdI) : FnOk P w K mg base CX0 8 f fd ["self", "lives"] (spEx K Cf CY CV "backed") := by
  refine F.ok scXBacked (fun vs H Q E h => ?_) (fun cdv A outer s H vs Q E hr h => ?_)
  · obtain ⟨_, _, _, _, rfl, _⟩ := h
    rfl
  · obtain ⟨a, lv, xs, F0, rfl, hf, hA, hL, hO, hT, q⟩ := h
    have hk : ("backed" : Str) ∈ kinds := by decide +kernel
    obtain ⟨z, m, y, k2, rfl, hz, hm, hy, hk2⟩ := sh4 hf (by decide +kernel)
    obtain ⟨dx, fs, ha, tl⟩ := id hA
    have lt := tl.2.2.1
    rw [(attrs_meet "backed" (by decide +kernel))] at lt
    simp only [List.zip_cons_cons, List.zip_nil_right, List.forall_mem_cons] at lt
    obtain ⟨l0, l1, l2, l3, _⟩ := lt
    have no := (R.c "backed" hk).no
    rw [(attrs_meet "backed" (by decide +kernel))] at no
    simp only [List.forall_mem_cons] at no
    obtain ⟨_, _, n0, n1, n2, n3, _⟩ := no
    have cl := (R.c "backed" hk).cl
    have hr6 : Room 6 _ := hr.mono (by decide)
    have hr5 : Room 5 _ := hr.mono (by decide)
    refine ⟨_, pss_one (ps_ret (pe_lst (pa_cons (pe_tup (pa_cons (pe_make S.M S.G hr5 (by rfl) S.T.mgC S.b .nil passNo (pa_cons (pe_fld (pv 0) rfl) (pa_cons (pe_fld (pv 0) rfl) (pa_cons pe_bl pa_nil)))) (pa_cons (pe_make S.M S.G hr5 (by rfl) S.T.mgC S.b .nil passNo (pa_cons (pe_fld (pv 0) rfl) (pa_cons (pe_fld (pv 0) rfl) (pa_cons pe_bl pa_nil)))) pa_nil))) pa_nil))), ?_⟩
    refine ⟨_, rfl, a, Cf "backed", dx, _, _, rfl, ha, cl, n0, l0, _, rfl, a, Cf "backed", dx, _, _, rfl, ha, cl, n1, l1, fun o1 d_o1 nx_o1 nd_o1 ne_o1 => initS nx_o1 nd_o1 hz hm fun H1 s1 A1 => ⟨rfl, ?_⟩⟩
    have ha1 := s1 _ _ ha
    refine ⟨_, rfl, a, Cf "backed", dx, _, _, rfl, ha1, cl, n2, l2, _, rfl, a, Cf "backed", dx, _, _, rfl, ha1, cl, n3, l3, fun o2 d_o2 nx_o2 nd_o2 ne_o2 => initS nx_o2 nd_o2 hy hk2 fun H2 s2 A2 => ⟨rfl, ?_⟩⟩
    refine ⟨by show 2 ≤ sizeLine; decide, fun t ht => ⟨by show 1 ≤ sizeLine; decide, fun l hl => ?_⟩⟩
    have s3 := (same_upd0 (o := .tup [.ref o1, .ref o2]) ht).trans (same_upd0 (o := .lst [.ref t]) hl)
    refine q _ l [.ref t] ((s1.trans s2).trans s3) upd_same ?_
    rw [pairs4, if_neg (by decide +kernel), if_neg (by decide +kernel), if_neg (by decide +kernel)]
    exact .cons ⟨t, o1, o2, rfl, same_upd0 hl _ _ upd_same, At.same A1 (s2.trans s3), At.same A2 s3⟩ .nil
abbrev sXFound : Stmt := inClass (topS 38) 1
theorem scXFound : FnScope ["self", "lives", "denied"] ["self", "lives"] (defScope sXFound) := ⟨rfl, rfl, rfl, by decide +kernel, rfl, by decide +kernel, by decide +kernel⟩
theorem ok_xFound {Cf : Str → Addr} {CR CN CM CS CY CV f fI : Addr} {fd fdI : FuncData} (F : Fun K "_excluded" "Found._excluded" sXFound f fd) (R : RowsC K mg Cf CR) (S : SayM P w K mg base CN CM CS CY fI fdI) : FnOk P w K mg base CX0 8 f fd ["self", "lives"] (spEx K Cf CY CV "found") := by
  refine F.ok scXFound (fun vs H Q E h => ?_) (fun cdv A outer s H vs Q E hr h => ?_)
  · obtain ⟨_, _, _, _, rfl, _⟩ := h
    rfl
  · obtain ⟨a, lv, xs, F0, rfl, hf, hA, hL, hO, hT, q⟩ := h
    have hk : ("found" : Str) ∈ kinds := by decide +kernel
    obtain ⟨z, m, b, rfl, hz, hm⟩ := shT hf (by decide +kernel)
    obtain ⟨dx, fs, ha, tl⟩ := id hA
    have lt := tl.2.2.1
    rw [attrs_found] at lt
    simp only [List.zip_cons_cons, List.zip_nil_right, List.forall_mem_cons] at lt
    obtain ⟨l0, l1, l2, _⟩ := lt
    have no := (R.c "found" hk).no
    rw [attrs_found] at no
    simp only [List.forall_mem_cons] at no
    obtain ⟨_, _, n0, n1, n2, _⟩ := no
    have cl := (R.c "found" hk).cl
    have hr6 : Room 6 _ := hr.mono (by decide)
    have hr5 : Room 5 _ := hr.mono (by decide)
    refine ⟨_, pss_cons (ps_set (i := 2) scXFound.nd rfl (.inl rfl) (pe_make S.M S.G hr5 (by rfl) S.T.mgC S.b .nil passNo (pa_cons (pe_fld (pv 0) rfl) (pa_cons (pe_fld (pv 0) rfl) (pa_cons (pe_not (pe_fld (pv 0) rfl)) pa_nil))))) (pss_one (ps_ret (pe_lst (pa_cons (pe_tup (pa_cons (pv 2) (pa_cons (pv 2) pa_nil))) pa_nil)))), ?_⟩
    refine ⟨_, rfl, a, Cf "found", dx, _, _, rfl, ha, cl, n0, l0, _, rfl, a, Cf "found", dx, _, _, rfl, ha, cl, n1, l1, _, rfl, a, Cf "found", dx, _, _, rfl, ha, cl, n2, l2, b, rfl, fun o1 d_o1 nx_o1 nd_o1 ne_o1 => initS nx_o1 nd_o1 hz hm fun H1 s1 A1 => ⟨rfl, ?_⟩⟩
    refine ⟨_, rfl, _, rfl, by show 2 ≤ sizeLine; decide, fun t ht => ⟨by show 1 ≤ sizeLine; decide, fun l hl => ?_⟩⟩
    have s3 := (same_upd0 (o := .tup [.ref o1, .ref o1]) ht).trans (same_upd0 (o := .lst [.ref t]) hl)
    refine q _ l [.ref t] (s1.trans s3) upd_same ?_
    exact .cons ⟨t, o1, o1, rfl, same_upd0 hl _ _ upd_same, At.same A1 s3, At.same A1 s3⟩ .nil
abbrev sXAgreed : Stmt := inClass (topS 42) 1
theorem scXAgreed : FnScope ["self", "lives", "first", "second"] ["self", "lives"] (defScope sXAgreed) := ⟨rfl, rfl, rfl, by decide +kernel, rfl, by decide +kernel, by decide +kernel⟩
theorem ok_xAgreed {Cf : Str → Addr} {CR CN CM CS CY CV f fI : Addr} {fd fdI : FuncData} (F : Fun K "_excluded" "Agreed._excluded" sXAgreed f fd) (R : RowsC K mg Cf CR) (S : SayM P w K mg base CN CM CS CY fI fdI) {fV : Addr} {fdV : FuncData} (sV : PySem.W.findIn K (.ref CY) "__invert__" = some (some (.ref fV))) (iV : PySem.W.isFn K (.ref fV) = true) (bV : Binds K fdV ["self"] []) (GV : FnOk P w K mg base CX0 6 fV fdV ["self"] (spInv CY)) : FnOk P w K mg base CX0 8 f fd ["self", "lives"] (spEx K Cf CY CV "agreed") := by
  refine F.ok scXAgreed (fun vs H Q E h => ?_) (fun cdv A outer s H vs Q E hr h => ?_)
  · obtain ⟨_, _, _, _, rfl, _⟩ := h
    rfl
  · obtain ⟨a, lv, xs, F0, rfl, hf, hA, hL, hO, hT, q⟩ := h
    have hk : ("agreed" : Str) ∈ kinds := by decide +kernel
    obtain ⟨z, m, y, k2, rfl, hz, hm, hy, hk2⟩ := sh4 hf (by decide +kernel)
    obtain ⟨dx, fs, ha, tl⟩ := id hA
    have lt := tl.2.2.1
    rw [(attrs_meet "agreed" (by decide +kernel))] at lt
    simp only [List.zip_cons_cons, List.zip_nil_right, List.forall_mem_cons] at lt
    obtain ⟨l0, l1, l2, l3, _⟩ := lt
    have no := (R.c "agreed" hk).no
    rw [(attrs_meet "agreed" (by decide +kernel))] at no
    simp only [List.forall_mem_cons] at no
    obtain ⟨_, _, n0, n1, n2, n3, _⟩ := no
    have cl := (R.c "agreed" hk).cl
    have hr6 : Room 6 _ := hr.mono (by decide)
    have hr5 : Room 5 _ := hr.mono (by decide)
    refine ⟨_, pss_cons (ps_par (i := 2) (j := 3) (by rfl) scXAgreed.nd rfl rfl (by decide) rfl rfl (pa_cons (pe_make S.M S.G hr5 (by rfl) S.T.mgC S.b .nil passNo (pa_cons (pe_fld (pv 0) rfl) (pa_cons (pe_fld (pv 0) rfl) (pa_cons pe_bl pa_nil)))) (pa_cons (pe_make S.M S.G hr5 (by rfl) S.T.mgC S.b .nil passNo (pa_cons (pe_fld (pv 0) rfl) (pa_cons (pe_fld (pv 0) rfl) (pa_cons pe_bl pa_nil)))) pa_nil)) (by rfl))
      (pss_one (ps_ret (pe_lst (pa_cons (pe_tup (pa_cons (pv 2) (pa_cons (pe_un (un_invOwn GV sV iV bV pass0 hr6) (pv 3)) pa_nil))) (pa_cons (pe_tup (pa_cons (pe_un (un_invOwn GV sV iV bV pass0 hr6) (pv 2)) (pa_cons (pv 3) pa_nil))) pa_nil))))), ?_⟩
    refine ⟨_, rfl, a, Cf "agreed", dx, _, _, rfl, ha, cl, n0, l0, _, rfl, a, Cf "agreed", dx, _, _, rfl, ha, cl, n1, l1, fun o1 d_o1 nx_o1 nd_o1 ne_o1 => initS nx_o1 nd_o1 hz hm fun H1 s1 A1 => ⟨rfl, ?_⟩⟩
    have ha1 := s1 _ _ ha
    refine ⟨_, rfl, a, Cf "agreed", dx, _, _, rfl, ha1, cl, n2, l2, _, rfl, a, Cf "agreed", dx, _, _, rfl, ha1, cl, n3, l3, fun o2 d_o2 nx_o2 nd_o2 ne_o2 => initS nx_o2 nd_o2 hy hk2 fun H2 s2 A2 => ⟨rfl, _, _, rfl, ?_⟩⟩
    obtain ⟨dx2, e2⟩ := id A2
    refine ⟨_, rfl, _, rfl, o2, dx2, _, rfl, e2, o2, y, k2, true, rfl, A2, hy, hk2, fun H3 o3 s3 A3 => ?_⟩
    refine ⟨by show 2 ≤ sizeLine; decide, fun t ht => ?_⟩
    have s4 := same_upd0 (o := .tup [.ref o1, .ref o3]) ht
    have e5 : (upd H3 t (.tup [.ref o1, .ref o3])) t = _ := upd_same
    revert s4 e5
    generalize upd H3 t (.tup [.ref o1, .ref o3]) = H4
    intro s4 e5
    have A14 := At.same A1 (s2.trans (s3.trans s4))
    obtain ⟨dx1, e1⟩ := id A14
    refine ⟨_, rfl, o1, dx1, _, rfl, e1, o1, z, m, true, rfl, A14, hz, hm, fun H5 o5 s5 A5 => ?_⟩
    refine ⟨_, rfl, by show 2 ≤ sizeLine; decide, fun t2 ht2 => ⟨by show 2 ≤ sizeLine; decide, fun l hl => ?_⟩⟩
    have s6 := (same_upd0 (o := .tup [.ref o5, .ref o2]) ht2).trans (same_upd0 (o := .lst [.ref t, .ref t2]) hl)
    refine q _ l [.ref t, .ref t2] ((((s1.trans s2).trans (s3.trans s4)).trans s5).trans s6) upd_same ?_
    rw [pairs4, if_pos rfl]
    exact .cons ⟨t, o1, o3, rfl, (s5.trans s6) _ _ e5, At.same A14 (s5.trans s6), At.same A3 ((s4.trans s5).trans s6)⟩ (.cons ⟨t2, o5, o2, rfl, same_upd0 hl _ _ upd_same, At.same A5 s6, At.same A2 (((s3.trans s4).trans s5).trans s6)⟩ .nil)
end
end K13

/-! rules within a comprehension's block, the written part told -/
namespace So
open PySem PySem.Spec PyProof.Rows L2
section
variable {X : Cx} {K : PySem.W.Frag} {tg l e : Expr} {tl ta : TE} {f : Str} {pos : Pos}
theorem pi_tupK (h : X.K = K) (hl : PE X l tl) : PI X tg l (iTup K tl) := by
  subst h
  exact pi_tup hl
theorem pi_listK (h : X.K = K) (hl : PE X l tl) : PI X tg l (iList K tl) := by
  subst h
  exact pi_list hl
theorem pe_fldK (h : X.K = K) (he : PE X e ta) (hb : attributeBase e f X.env (eval e X.env) = eval e X.env) : PE X (.Attribute e f pos) (tFld K ta f) := by
  subst h
  exact pe_fld he hb
theorem ix_listK (h : X.K = K) : IxR X (rIxL K) := h ▸ ix_list
theorem ix_tupK (h : X.K = K) : IxR X (rIxT K) := h ▸ ix_tup
theorem op_inK (h : X.K = K) : OpR X (compareOp .In) (rIn K false) := by
  subst h
  exact op_in_seq
theorem op_notInK (h : X.K = K) : OpR X (compareOp .NotIn) (rIn K true) := by
  subst h
  exact op_notIn_seq
theorem lenK (h : X.K = K) : CallR X (.builtin "len") (fun xs H Q => ∃ (p : Addr) (ys : List V), xs = [V.ref p] ∧ (SqL K H p ys ∨ SqT K H p ys) ∧ Q (.int (ys.length : Nat)) H) := by
  subst h
  exact call_len_seq
end
end So

namespace K13
open PySem PySem.Spec PyProof.Rows L2 So
theorem lastsOf_cons (x y : Int) (r : List Int) : lastsOf (x :: y :: r) = (y - 1) :: lastsOf (y :: r) := rfl
theorem lastsOf_len : ∀ fs : List Int, fs ≠ [] → (lastsOf fs).length = fs.length
  | x :: r, _ => by simp [lastsOf]
theorem last_uniq : ∀ (fs : List Int) (k : Nat) (i r : Int), fs.Pairwise (· < ·) → fs[k]? = some i →
    (((∀ n ∈ fs, n ≤ i) ∧ r = 1000000000000000000000000000000) ∨ ∃ m ∈ fs, i < m ∧ (∀ n ∈ fs, i < n → m ≤ n) ∧ r = m - 1) → (lastsOf fs)[k]? = some r
  | [], _, _, _, _, h, _ => by simp at h
  | [x], k, i, r, _, h, c => by
    cases k with
    | zero =>
      obtain rfl : x = i := by simpa using h
      rcases c with ⟨_, rfl⟩ | ⟨m, hm, h1, _⟩
      · rfl
      · rw [List.mem_singleton.mp hm] at h1
        exact absurd h1 (Int.lt_irrefl _)
    | succ k => simp at h
  | x :: y :: r', k, i, r, hp, h, c => by
    rw [List.pairwise_cons] at hp
    have hxy : x < y := hp.1 y List.mem_cons_self
    cases k with
    | zero =>
      obtain rfl : x = i := by simpa using h
      rw [lastsOf_cons]
      rcases c with ⟨c1, _⟩ | ⟨m, hm, h1, h2, rfl⟩
      · exact absurd (c1 y (List.mem_cons_of_mem _ List.mem_cons_self)) (by omega)
      · have a := h2 y (List.mem_cons_of_mem _ List.mem_cons_self) hxy
        have b : y ≤ m := by
          rcases List.mem_cons.mp hm with e | e
          · omega
          · rcases List.mem_cons.mp e with e | e
            · omega
            · have := (List.pairwise_cons.mp hp.2).1 m e
              omega
        obtain rfl : m = y := by omega
        rfl
    | succ k =>
      have hi : i ∈ y :: r' := List.mem_of_getElem? (show (y :: r')[k]? = some i from h)
      have hxi := hp.1 i hi
      rw [lastsOf_cons]
      refine last_uniq (y :: r') k i r hp.2 h ?_
      rcases c with ⟨c1, e⟩ | ⟨m, hm, h1, h2, e⟩
      · exact .inl ⟨fun n hn => c1 n (List.mem_cons_of_mem _ hn), e⟩
      · refine .inr ⟨m, ?_, h1, fun n hn => h2 n (List.mem_cons_of_mem _ hn), e⟩
        rcases List.mem_cons.mp hm with e | e
        · omega
        · exact e
theorem lasts_mom {l : List Int} (h : ∀ n ∈ l, gBeg (.int n) = true) : ∀ m ∈ lastsOf (0 :: l), Mom m := by
  intro m hm
  unfold lastsOf at hm
  rcases List.mem_append.mp hm with e | e
  · obtain ⟨n, hn, rfl⟩ := List.mem_map.mp e
    have : 1 ≤ n ∧ n ≤ 1000000000000000000000000000000 := of_decide_eq_true (h n hn)
    exact ⟨by omega, by omega⟩
  · rw [List.mem_singleton.mp e]
    exact ⟨by decide, by decide⟩
theorem paired_get {α β : Type} {F : α → β → Prop} : ∀ {l : List α} {r : List β} {j : Nat} {a : α}, Paired F l r → l[j]? = some a → ∃ b, r[j]? = some b ∧ F a b
  | _, _, j, a, .nil, h => by simp at h
  | _, _, 0, a, .cons f p, h => by
    obtain rfl := Option.some.inj h
    exact ⟨_, rfl, f⟩
  | _, _, j + 1, a, .cons f p, h => paired_get (j := j) p h
theorem paired_len {α β : Type} {F : α → β → Prop} : ∀ {l : List α} {r : List β}, Paired F l r → l.length = r.length
  | _, _, .nil => rfl
  | _, _, .cons _ p => congrArg (· + 1) (paired_len p)
theorem At.upd {C D : Addr} {H : Hp} {a : Addr} {z : Str} {m : Int} {b : Bool} {xs : List V} {o : HO} (h : At C H a z m b) (hD : H D = some (.lst xs)) : At C (L2.upd H D o) a z m b := by
  obtain ⟨dx, e⟩ := h
  exact ⟨dx, (upd_ne (ne_of e hD (fun y => nomatch y))).trans e⟩
theorem PairAt.upd {C D : Addr} {H : Hp} {v : V} {p : Sg × Sg} {xs : List V} {o : HO} (h : PairAt C H v p) (hD : H D = some (.lst xs)) : PairAt C (L2.upd H D o) v p := by
  obtain ⟨t, a, b, h1, h2, h3, h4⟩ := h
  exact ⟨t, a, b, h1, (upd_ne (ne_of h2 hD (fun y => nomatch y))).trans h2, At.upd h3 hD, At.upd h4 hD⟩
abbrev sXTrusted : Stmt := inClass (topS 39) 1
abbrev trN : List Str := ["self", "lives", "lasts", "denied", "beginning", "last", "saying"]
theorem scXTrusted : FnScope trN ["self", "lives"] (defScope sXTrusted) := ⟨rfl, rfl, rfl, by decide +kernel, rfl, by decide +kernel, by decide +kernel⟩
section
variable {P : Program} {w : World} {K : PySem.W.Frag} {mg : Str → Option Value} {base : Heap}
theorem ok_xTrusted {Cf : Str → Addr} {CR CN CM CS CY CV CT' CL f fI fB' fL : Addr} {fd fdI fdB fdL : FuncData} (F : Fun K "_excluded" "Trusted._excluded" sXTrusted f fd) (R : RowsC K mg Cf CR) (S : SayM P w K mg base CN CM CS CY fI fdI)
    (T : Lvs K mg CV) (mB : Meth K CV "beginnings" fB') (bB : Binds K fdB ["self", "tool"] []) (GB : FnOk P w K mg base (L2.CX P w) 3 fB' fdB ["self", "tool"] (spBeg CV CT'))
    (mL : Meth K CV "last_of" fL) (bL : Binds K fdL ["self", "life"] []) (GL : FnOk P w K mg base (L2.CX P w) 3 fL fdL ["self", "life"] (spLast CV CL)) : FnOk P w K mg base CX0 8 f fd ["self", "lives"] (spEx K Cf CY CV "trusted") := by
  refine F.ok scXTrusted (fun vs H Q E h => ?_) (fun cdv A outer s H vs Q E hr h => ?_)
  · obtain ⟨_, _, _, _, rfl, _⟩ := h
    rfl
  · obtain ⟨a, lv, xs, F0, rfl, hf, hA, hL, hO, hT, q⟩ := h
    have hk : ("trusted" : Str) ∈ kinds := by decide +kernel
    obtain ⟨z, rfl, hz⟩ := sh1 hf (by decide +kernel)
    obtain ⟨dx, fs, ha, tl⟩ := id hA
    have lt := tl.2.2.1
    rw [attrs_trusted] at lt
    simp only [List.zip_cons_cons, List.zip_nil_right, List.forall_mem_cons] at lt
    obtain ⟨l0, _⟩ := lt
    have no := (R.c "trusted" hk).no
    rw [attrs_trusted] at no
    simp only [List.forall_mem_cons] at no
    obtain ⟨_, _, n0, _⟩ := no
    have cl := (R.c "trusted" hk).cl
    have hr3 : Room 3 _ := hr.mono (by decide)
    have hr5 : Room 5 _ := hr.mono (by decide)
    refine ⟨_, pss_cons (ps_setLc (i := 2) (own := [("beginning", 4)]) (g := gName 4) (tt := tYes) rfl scXTrusted.nd rfl rfl (sw_true rfl rfl rfl (by decide +kernel)) (pi_tup (pe_meth (pv 1) T.cl mB GB hr3 bB .nil passNo (pa_cons (pe_fld (pv 0) rfl) pa_nil))) (blkOk_by (N := trN) (sc := defScope sXTrusted) (by decide +kernel))
          (fun _ _ _ _ _ => pg_name (i := 4) scXTrusted.nd rfl (Or.inl rfl)) (fun _ _ _ _ _ => pts_nil) (fun _ _ _ _ _ => pe_meth (pv 1) T.cl mL GL hr3 bL .nil passNo (pa_cons (pe_tup (pa_cons (pe_fldK (K := K) rfl (pv 0) rfl) (pa_cons (pv 4) pa_nil))) pa_nil)))
      (pss_cons (ps_setLc (i := 3) (own := [("last", 5)]) (g := gName 5) (tt := tYes) rfl scXTrusted.nd rfl rfl (sw_true rfl rfl rfl (by decide +kernel)) (pi_list (pv 2)) (blkOk_by (N := trN) (sc := defScope sXTrusted) (by decide +kernel))
          (fun _ _ _ _ _ => pg_name (i := 5) scXTrusted.nd rfl (Or.inl rfl)) (fun _ _ _ _ _ => pts_nil) (fun _ _ _ _ _ => pe_make S.M S.G hr5 (by rfl) S.T.mgC S.b .nil passNo (pa_cons (pe_fldK (K := K) rfl (pv 0) rfl) (pa_cons (pv 5) (pa_cons pe_bl pa_nil)))))
      (pss_one (ps_ret (pe_lc (own := [("saying", 6)]) (g := gName 6) (tt := tYes) rfl scXTrusted.nd (pi_list (pv 3)) (blkOk_by (N := trN) (sc := defScope sXTrusted) (by decide +kernel))
          (fun _ _ _ _ _ => pg_name (i := 6) scXTrusted.nd rfl (Or.inl rfl)) (fun _ _ _ _ _ => pts_nil) (fun _ _ _ _ _ => pe_tup (pa_cons (pv 6) (pa_cons (pv 6) pa_nil))))))), ?_⟩
    obtain ⟨dxv, dv, kvs, v1, v2, v3, v4⟩ := id hL
    obtain ⟨ns, eF⟩ : ∃ ns, F0 z = some ns := Option.isSome_iff_exists.mp (hT z (by simp [strsOf]))
    obtain ⟨l, rfl, hl64, hlb, hlp⟩ := hO z ns eF
    have hasc : ((0 : Int) :: l).Pairwise (· < ·) := List.pairwise_cons.mpr ⟨fun n hn => by
      have : 1 ≤ n ∧ n ≤ 1000000000000000000000000000000 := of_decide_eq_true (hlb n hn)
      omega, hlp⟩
    have hll : (lastsOf (0 :: l)).length = (0 :: l).length := lastsOf_len _ (fun e => nomatch e)
    have hmom := lasts_mom hlb
    have gz : ∀ H', Gv H' (.str z) "str" := fun H' => .str z (Nat.le_trans (name_len hz) (by decide))
    have hsz := sizeLine_eq
    have eL : lastsF F0 z = lastsOf (0 :: l) := by unfold lastsF; rw [eF]
    refine ⟨_, rfl, lv, dxv, _, rfl, v1, rfl, _, rfl, a, Cf "trusted", dx, _, _, rfl, ha, cl, n0, l0, lv, .str z, "str", F0, rfl, hL, gz H, fun ns' e t ht => ?_, fun e => by rw [show fB F0 (.str z) = F0 z from rfl, eF] at e; cases e⟩
    obtain rfl : 0 :: l = ns' := Option.some.inj (eF.symm.trans e)
    refine ⟨t, rfl, ⟨_, SqT.of ht⟩, fun D hD => ?_⟩
    refine lc_it walk_tup (fun k H' => Same H H' ∧ H' D = some (.lst (((lastsOf (0 :: l)).take k).map V.int))) ⟨Same.over (Same.refl H) hD, upd_same⟩ (fun _ _ _ y => SqT.of (y.1 _ _ ht)) ?_ ?_
    · rintro k x H1 H2 hk1 ⟨s1, hDk⟩ ⟨rfl, hx⟩
      obtain ⟨n, hn, rfl⟩ : ∃ n, (0 :: l)[k]? = some n ∧ x = .int n := by
        rw [List.getElem?_map] at hx
        cases e : (0 :: l)[k]? with
        | none => rw [e] at hx; cases hx
        | some n => rw [e] at hx; exact ⟨n, rfl, (Option.some.inj hx).symm⟩
      refine ⟨rfl, _, rfl, lv, dxv, _, rfl, s1 _ _ v1, rfl, _, rfl, a, Cf "trusted", dx, _, _, rfl, s1 _ _ ha, cl, n0, l0, _, rfl, by show 2 ≤ sizeLine; decide, fun tp htp => ?_⟩
      have s2 := same_upd0 (o := .tup [.str z, .int n]) htp
      refine ⟨lv, .ref tp, some (.str z, .int n), F0, rfl, hL.same (s1.trans s2), hO, .inr ⟨.str z, .int n, tp, "str", "int", rfl, rfl, upd_same, gz _, .int n⟩, fun u i ns' r e1 e2 hi c H3 s3 => ?_, fun e => ?_⟩
      · cases e1
        obtain rfl : 0 :: l = ns' := Option.some.inj (eF.symm.trans e2)
        have hlast := last_uniq (0 :: l) k _ r hasc hn c
        refine ⟨_, s3 _ _ (s2 _ _ hDk), ?_, Same.over (s1.trans (s2.trans s3)) hD, ?_⟩
        · rw [List.length_map]
          have h2 : ((lastsOf (0 :: l)).take k).length ≤ (lastsOf (0 :: l)).length := List.length_take_le' _ _
          have h3 : (0 :: l).length = l.length + 1 := rfl
          omega
        · rw [upd_same, List.take_add_one, hlast, List.map_append]
          rfl
      · have e : (match F0 z with | some ns => decide (n ∈ ns) | none => false) = false := e
        rw [eF] at e
        exact absurd (List.mem_of_getElem? hn) (of_decide_eq_false e)
    · rintro H1 ⟨s1, hD1⟩
      rw [List.length_map, List.take_of_length_le (by rw [hll]; exact Nat.le_refl _)] at hD1
      refine ⟨_, rfl, D, rfl, ⟨_, SqL.of hD1⟩, fun D2 hD2 => ?_⟩
      refine lc_it walk_list (fun k H' => Same H1 H' ∧ ∃ as : List Addr, as.length = k ∧ H' D2 = some (.lst (as.map V.ref)) ∧ Paired (fun o m => At CY H' o z m false) as ((lastsOf (0 :: l)).take k)) ⟨Same.over (Same.refl H1) hD2, [], rfl, upd_same, .nil⟩ (fun _ _ _ y => SqL.of (y.1 _ _ hD1)) ?_ ?_
      · rintro k x H2 H3 hk1 ⟨s2, as, hal, hDk, hp⟩ ⟨rfl, hx⟩
        obtain ⟨m, hm, rfl⟩ : ∃ m, (lastsOf (0 :: l))[k]? = some m ∧ x = .int m := by
          rw [List.getElem?_map] at hx
          cases e : (lastsOf (0 :: l))[k]? with
          | none => rw [e] at hx; cases hx
          | some n => rw [e] at hx; exact ⟨n, rfl, (Option.some.inj hx).symm⟩
        have hk2 : k < (0 :: l).length := by rw [← hll]; rw [List.length_map] at hk1; exact hk1
        have h3 : (0 :: l).length = l.length + 1 := rfl
        refine ⟨rfl, _, rfl, a, Cf "trusted", dx, _, _, rfl, s2 _ _ (s1 _ _ ha), cl, n0, l0, _, rfl, fun o d nx nd ne => initS nx nd hz (hmom m (List.mem_of_getElem? hm)) fun H4 s4 A4 => ⟨rfl, ?_⟩⟩
        have hD4 := s4 _ _ hDk
        refine ⟨_, hD4, by rw [List.length_map]; omega, Same.over (s2.trans s4) hD2, as ++ [o], by rw [List.length_append, hal]; rfl, ?_, ?_⟩
        · rw [upd_same, List.map_append]
          rfl
        · rw [List.take_add_one, hm]
          exact (L2.Paired.mapP hp fun _ _ e => At.upd (At.same e s4) hD4).snoc (At.upd A4 hD4)
      · rintro H2 ⟨s2, as, hal, hDk, hp⟩
        rw [List.length_map, List.take_of_length_le (Nat.le_refl _)] at hp
        rw [List.length_map] at hal
        refine ⟨_, rfl, D2, rfl, ⟨_, SqL.of hDk⟩, fun D3 hD3 => ?_⟩
        refine lc_it walk_list (fun k H' => Same H2 H' ∧ ∃ us : List V, us.length = k ∧ H' D3 = some (.lst us) ∧ Paired (PairAt CY H') us (((lastsOf (0 :: l)).take k).map fun m => ((z, m, false), (z, m, false)))) ⟨Same.over (Same.refl H2) hD3, [], rfl, upd_same, .nil⟩ (fun _ _ _ y => SqL.of (y.1 _ _ hDk)) ?_ ?_
        · rintro k x H3 H4 hk1 ⟨s3, us, hul, hDu, hpu⟩ ⟨rfl, hx⟩
          obtain ⟨o, ho, rfl⟩ : ∃ o, as[k]? = some o ∧ x = .ref o := by
            rw [List.getElem?_map] at hx
            cases e : as[k]? with
            | none => rw [e] at hx; cases hx
            | some n => rw [e] at hx; exact ⟨n, rfl, (Option.some.inj hx).symm⟩
          obtain ⟨m, hm, A⟩ := paired_get hp ho
          have hk2 : k < (0 :: l).length := by rw [← hll, ← hal]; rw [List.length_map] at hk1; exact hk1
          have h3 : (0 :: l).length = l.length + 1 := rfl
          refine ⟨rfl, _, rfl, _, rfl, by show 2 ≤ sizeLine; decide, fun t2 ht2 => ?_⟩
          have s4 := same_upd0 (o := .tup [.ref o, .ref o]) ht2
          have hD4 := s4 _ _ hDu
          refine ⟨_, hD4, by omega, Same.over (s3.trans s4) hD3, us ++ [.ref t2], by rw [List.length_append, hul]; rfl, ?_, ?_⟩
          · rw [upd_same]
          · rw [List.take_add_one, hm, List.map_append]
            refine (L2.Paired.mapP hpu fun _ _ e => PairAt.upd (PairAt.same e s4) hD4).snoc (PairAt.upd ?_ hD4)
            exact ⟨t2, o, o, rfl, upd_same, At.same A (s3.trans s4), At.same A (s3.trans s4)⟩
        · rintro H3 ⟨s3, us, hul, hDu, hpu⟩
          rw [List.length_map, hal, List.take_of_length_le (Nat.le_refl _)] at hpu
          refine q H3 D3 us ((s1.trans s2).trans s3) hDu ?_
          show Paired (PairAt CY H3) us ((lastsF F0 z).map _)
          rw [eL]
          exact hpu
end
end K13

namespace K13
open PySem PySem.Spec PyProof.Rows L2 So
abbrev sLTools : Stmt := inClass (topS 50) 1
abbrev sPairs : Stmt := inClass (topS 32) 6
theorem scLTools : FnScope ["self"] ["self"] (defScope sLTools) := ⟨rfl, rfl, rfl, by decide +kernel, rfl, by decide +kernel, by decide +kernel⟩
theorem scPairs : FnScope ["self", "lives", "tool"] ["self", "lives"] (defScope sPairs) := ⟨rfl, rfl, rfl, by decide +kernel, rfl, by decide +kernel, by decide +kernel⟩
theorem inV_keys (z : Str) : ∀ kvs : List (Key × V), inV (.str z) (kvs.map fun kv => kV kv.1) = (valV kvs (.inr z)).isSome
  | [] => rfl
  | (k, v) :: r => by
    have h := inV_keys z r
    show (eqV (kV k) (.str z) || inV (.str z) (r.map fun kv => kV kv.1)) = _
    rw [h]
    by_cases e : k = .inr z
    · subst e
      rw [show valV ((.inr z, v) :: r) (.inr z) = some v from valV_pos rfl]
      have : eqV (kV (.inr z)) (.str z) = true := by
        show (z == z) = true
        exact beq_self_eq_true z
      rw [this]
      rfl
    · rw [show valV ((k, v) :: r) (.inr z) = valV r (.inr z) from valV_neg e]
      have : eqV (kV k) (.str z) = false := by
        cases k with
        | inl i => rfl
        | inr y =>
          show (y == z) = false
          exact beq_eq_false_iff_ne.mpr fun w => e (by rw [w])
      rw [this]
      rfl
theorem flat_keys : ∀ kvs : List (Key × V), (kvs.map fun kv => kV kv.1).all flatV = true
  | [] => rfl
  | (k, v) :: r => by
    have h := flat_keys r
    rw [List.map_cons, List.all_cons, h, Bool.and_true]
    cases k <;> rfl
/-- the tools of a row, ascending -/
def Tls (ns : List Str) (xs : List V) : Prop := sortedS ns = true ∧ ns.Nodup ∧ ∀ k, k ∈ ns ↔ k ∈ strsOf xs
theorem Tls.one {a b : List Str} {xs : List V} (h : Tls a xs) (k : Tls b xs) : a = b := sortedS_one h.1 k.1 h.2.1 k.2.1 fun z => (h.2.2 z).trans (k.2.2 z).symm
section
variable {P : Program} {w : World} {K : PySem.W.Frag} {mg : Str → Option Value} {base : Heap}
def spLTools (CV : Addr) : Sp := fun vs H Q _ => ∃ (a : Addr) (F : Str → Option (List Int)), vs = [.ref a] ∧ LvAt CV H a F ∧ ∀ (H' : Hp) (t : Addr) (ys : List V), Same H H' → H' t = some (.tup ys) → ys.all flatV = true → (∀ z, inV (.str z) ys = (F z).isSome) → Q (.ref t) H'
theorem ok_ltools {CV f : Addr} {fd : FuncData} (F : Fun K "tools" "Lives.tools" sLTools f fd) (T : Lvs K mg CV) (mt : mg "tuple" = none) : FnOk P w K mg base CX0 1 f fd ["self"] (spLTools CV) := by
  refine F.ok scLTools (fun vs H Q E h => ?_) (fun cdv A outer s H vs Q E hr h => ?_)
  · obtain ⟨_, _, rfl, _⟩ := h
    rfl
  · obtain ⟨a, F, rfl, ⟨dx, d, kvs, h1, h2, h3, h4⟩, q⟩ := h
    refine ⟨_, pss_one (ps_ret (pe_callTy (call_tupleD rfl) (by rfl) mt (by decide +kernel) (pa_cons (pe_fld (pv 0) rfl) pa_nil))), ?_⟩
    refine ⟨_, rfl, a, CV, dx, _, _, rfl, h1, T.cl, T.nB, rfl, d, kvs, rfl, .inl h2, fun t ht => ?_⟩
    refine q _ t _ (same_upd0 ht) upd_same (flat_keys kvs) fun z => ?_
    rw [inV_keys]
    cases e : F z with
    | none =>
      rw [h3 z e]
      rfl
    | some ns =>
      obtain ⟨u, e1, _⟩ := h4 z ns e
      rw [e1]
      rfl
/-- what each kind excludes -/
structure Excs (P : Program) (w : World) (K : PySem.W.Frag) (mg : Str → Option Value) (base : Heap) (Cf : Str → Addr) (CY CV : Addr) : Prop where
  x : ∀ kind ∈ kinds, ∃ (fX : Addr) (fdX : FuncData), Meth K (Cf kind) "_excluded" fX ∧ Binds K fdX ["self", "lives"] [] ∧ FnOk P w K mg base CX0 8 fX fdX ["self", "lives"] (spEx K Cf CY CV kind)
def ExP (P : Program) (w : World) (K : PySem.W.Frag) (mg : Str → Option Value) (base : Heap) (Cf : Str → Addr) (CY CV : Addr) (c : Str × Addr × FuncData) : Prop := c.1 ∈ kinds ∧ Meth K (Cf c.1) "_excluded" c.2.1 ∧ Binds K c.2.2 ["self", "lives"] [] ∧ FnOk P w K mg base CX0 8 c.2.1 c.2.2 ["self", "lives"] (spEx K Cf CY CV c.1)
def spPairsR (Cf : Str → Addr) (CY CV CT' : Addr) : Sp := fun vs H Q E => ∃ (a lv : Addr) (kind : Str) (xs : List V) (F : Str → Option (List Int)), vs = [.ref a, .ref lv] ∧ kind ∈ kinds ∧ FlatRow kind xs ∧ RowAt Cf H a kind xs ∧ LvAt CV H lv F ∧ FOk F ∧
  ((∀ z ∈ strsOf xs, (F z).isSome = true) → ∀ (H' : Hp) (t : Addr) (us : List V), Same H H' → H' t = some (.tup us) → Paired (PairAt CY H') us (pairsOf (lastsF F) kind xs) → Q (.ref t) H') ∧
  (∀ (ns : List Str) (i : Nat) (z : Str), Tls ns xs → ns[i]? = some z → F z = none → (∀ y ∈ ns.take i, (F y).isSome = true) → ∀ d H', Same H H' → H' d = some (.xd [("tool", .str z)]) → E (.ref CT') (some d) H')
theorem ok_pairsR {Cf : Str → Addr} {CR CY CV CT' CL f pT fT pL fL : Addr} {fd fdT fdL : FuncData} (F : Fun K "pairs" "Row.pairs" sPairs f fd) (R : RowsC K mg Cf CR) (mt : mg "tuple" = none) (ER : ErrsL K mg CT' CL)
    (hT : ∀ kind ∈ kinds, PropOf K (Cf kind) "tools" pT fT) (bT : Binds K fdT ["self"] []) (GT : FnOk P w K mg base CX0 2 fT fdT ["self"] (spTools Cf))
    (T : Lvs K mg CV) (hL : PropOf K CV "tools" pL fL) (bL : Binds K fdL ["self"] []) (GL : FnOk P w K mg base CX0 1 fL fdL ["self"] (spLTools CV)) (X : Excs P w K mg base Cf CY CV) : FnOk P w K mg base (L2.CX P w) 10 f fd ["self", "lives"] (spPairsR Cf CY CV CT') := by
  obtain ⟨f5, fd5, O5, F5⟩ := ER.t
  have G5 : FnOk P w K mg base CX0 1 f5 fd5 ["self", "tool"] (spOneE CT' "tool") := ok_eT F5 O5
  refine F.okX scPairs (fun vs H Q E h => ?_) (fun cdv A outer s H vs Q E hr h => ?_)
  · obtain ⟨_, _, _, _, _, rfl, _⟩ := h
    rfl
  · obtain ⟨a, lv, kind, xs, F0, rfl, hk, hf, hA, hLv, hO, qy, qn⟩ := h
    have hr2 : Room 2 _ := hr.mono (by decide)
    have hr3 : Room 3 _ := hr.mono (by decide)
    have hr4 : Room 4 _ := hr.mono (by decide)
    have hr8 : Room 8 _ := hr.mono (by decide)
    have hr9 : Room 9 _ := hr.mono (by decide)
    refine ⟨_, pss_cons (ps_for PassesOwn.leaving rfl (pi_tup (pe_ex (p := fun kind => kind ∈ kinds) fun kind hk => pe_prop (pv 0) (R.c kind hk).cl (hT kind hk) GT hr3 bT .nil pass0 (by rfl))) (pg_name (i := 2) scPairs.nd rfl (Or.inl rfl))
        (pss_one (ps_if (pt_cmpR op_notIn_seq (pv 2) (pe_prop (pv 1) T.cl hL GL hr2 bL .nil pass0 (by rfl)) (by rfl)) (pss_one (ps_raiseOne O5 G5 rfl hr2 (takes_of rfl rfl rfl rfl) (by rfl) (pa_cons (pv 2) pa_nil))) pss_nil)))
      (pss_one (ps_ret (pe_callTy call_tuple_of (by rfl) mt (by decide +kernel) (pa_cons (pe_ex (p := ExP P w K mg base Cf CY CV) fun c hc => pe_meth (pv 0) (R.c c.1 hc.1).cl hc.2.1 hc.2.2.2 hr8 hc.2.2.1 .nil pass0 (pa_cons (pv 1) pa_nil)) pa_nil)))), ?_⟩
    obtain ⟨dx, fs, ha, tl⟩ := id hA
    obtain ⟨dxv, dv, kvs, v1, v2, v3, v4⟩ := id hLv
    refine ⟨kind, hk, _, rfl, a, dx, fs, rfl, ha, a, kind, xs, rfl, hk, hf, hA, fun H1 t ns s1 ht n1 n2 n3 n4 => ?_⟩
    refine ⟨t, rfl, ⟨_, SqT.of ht⟩, ?_⟩
    refine for_it walk_tup (fun i σ G => (∃ x2, σ = [some (.ref a), some (.ref lv), x2]) ∧ Same H1 G ∧ ∀ y ∈ ns.take i, (F0 y).isSome = true) ⟨⟨none, rfl⟩, Same.refl _, fun _ h => nomatch h⟩ (fun _ _ _ _ y => SqT.of (y.2.1 _ _ ht)) ?_ ?_
    · rintro i x σ G G' hi ⟨⟨x2, rfl⟩, s2, hall⟩ ⟨rfl, hx⟩
      obtain ⟨z, hz, rfl⟩ : ∃ z, ns[i]? = some z ∧ x = .str z := by
        rw [List.getElem?_map] at hx
        cases e : ns[i]? with
        | none => rw [e] at hx; cases hx
        | some n => rw [e] at hx; exact ⟨n, rfl, (Option.some.inj hx).symm⟩
      refine ⟨_, rfl, _, rfl, lv, dxv, _, rfl, s2 _ _ (s1 _ _ v1), lv, F0, rfl, hLv.same (s1.trans s2), fun G2 t2 ys s3 ht2 fl hin => ?_⟩
      refine ⟨t2, ys, rfl, .inr (SqT.of ht2), rfl, fl, _, rfl, ite2 (fun e => ?_) (fun e => ?_)⟩
      · have e : (!inV (.str z) ys) = true := e
        rw [hin z, Bool.not_eq_true', Option.isSome_eq_false_iff, Option.isNone_iff_eq_none] at e
        exact ⟨_, rfl, mkOne rfl fun d H' s4 _ e4 => qn ns i z ⟨n1, n2, n3⟩ hz e hall d H' (((s1.trans s2).trans s3).trans s4) e4⟩
      · have e : ¬ (!inV (.str z) ys) = true := e
        rw [hin z, Bool.not_eq_true', Bool.not_eq_false] at e
        refine ⟨⟨_, rfl⟩, s2.trans s3, fun y hy => ?_⟩
        rw [List.take_add_one, hz] at hy
        rcases List.mem_append.mp hy with h | h
        · exact hall y h
        · rw [List.mem_singleton.mp h]
          exact e
    · rintro σ G ⟨⟨x2, rfl⟩, s2, hall⟩
      rw [List.length_map, List.take_length] at hall
      have hall2 : ∀ z ∈ strsOf xs, (F0 z).isSome = true := fun z hz => hall z ((n3 z).mpr hz)
      have s12 := s1.trans s2
      obtain ⟨fX, fdX, mX, bX, GX⟩ := X.x kind hk
      refine ⟨(kind, fX, fdX), ⟨hk, mX, bX, GX⟩, _, rfl, a, dx, fs, rfl, s12 _ _ ha, tl.2.2.2 "_excluded" (by simp [methR]), _, rfl, a, lv, xs, F0, rfl, hf, hA.same s12, hLv.same s12, hO, hall2, fun H3 l us s3 hl hp => ?_⟩
      refine ⟨l, us, rfl, .inl ⟨SqL.of hl, fun t3 ht3 => ?_⟩⟩
      have s4 := same_upd0 (o := .tup us) ht3
      exact qy hall2 _ t3 us ((s12.trans s3).trans s4) upd_same (L2.Paired.mapP hp fun _ _ e => PairAt.same e s4)
end
end K13

namespace K13
open PySem PySem.Spec PyProof.Rows L2 So
abbrev sStarts : Stmt := topS 65
abbrev startsN : List Str := ["_law_pen_here", "_law_crew_here", "_law_starts_here", "_law_word", "_law_base", "_law_k"]
theorem scStarts : FnScope startsN ["_law_pen_here", "_law_crew_here"] (defScope sStarts) := ⟨rfl, rfl, rfl, by decide +kernel, rfl, by decide +kernel, by decide +kernel⟩
/-- the beginnings by tools in the dict at d -/
def StAt (H : Hp) (d : Addr) (m : Nat) (F : Str → Option (List Int)) : Prop := ∃ (kvs : List (Key × V)) (ks : List Str), H d = some (.dK kvs) ∧ kvs.map (·.1) = ks.map Sum.inr ∧ ks.Nodup ∧ ks.length ≤ m ∧ (∀ z, z ∈ ks ↔ (F z).isSome = true) ∧ (∀ z ∈ ks, isName z = true) ∧
  ∀ z ns, F z = some ns → ∃ l, valV kvs (.inr z) = some (.ref l) ∧ H l = some (.lst (ns.map V.int)) ∧ ns.length ≤ 8 ∧ ∀ n ∈ ns, gBeg (.int n) = true
theorem pen_ne {H : Hp} {p l a : Addr} {ns : List Int} {n : Nat} {g : Int} {xs : List Int} (h : Pen H p l ns n g) (e : H a = some (.lst (xs.map V.int))) : a ≠ p := ne_of e h.pen (fun z => by
  injection z with z
  cases xs with
  | nil => cases z
  | cons x r => cases z)
theorem StAt.off {H H' : Hp} {d p l : Addr} {m : Nat} {F : Str → Option (List Int)} {ns : List Int} {n : Nat} {g : Int} (h : StAt H d m F) (hp : Pen H p l ns n g) (s : Off p H H') : StAt H' d m F := by
  obtain ⟨kvs, ks, h1, h2, h3, h4, h5, h6, h7⟩ := h
  refine ⟨kvs, ks, s _ _ (ne_of h1 hp.pen (fun z => nomatch z)) h1, h2, h3, h4, h5, h6, fun z ns hz => ?_⟩
  obtain ⟨a, e1, e2, e3⟩ := h7 z ns hz
  exact ⟨a, e1, s _ _ (pen_ne hp e2) e2, e3⟩
theorem StAt.same {H H' : Hp} {d : Addr} {m : Nat} {F : Str → Option (List Int)} (h : StAt H d m F) (s : Same H H') : StAt H' d m F := by
  obtain ⟨kvs, ks, h1, h2, h3, h4, h5, h6, h7⟩ := h
  refine ⟨kvs, ks, s _ _ h1, h2, h3, h4, h5, h6, fun z ns hz => ?_⟩
  obtain ⟨a, e1, e2, e3⟩ := h7 z ns hz
  exact ⟨a, e1, s _ _ e2, e3⟩
theorem StAt.bg {K : PySem.W.Frag} {H : Hp} {d : Addr} {m : Nat} {F : Str → Option (List Int)} (h : StAt H d m F) (hm : m < 64) : BgAt K H d F := by
  obtain ⟨kvs, ks, h1, h2, h3, h4, h5, h6, h7⟩ := h
  refine ⟨kvs, ks, h1, h2, by omega, h5, fun z hz => ⟨h6 z hz, Nat.le_trans (name_len (h6 z hz)) (by decide)⟩, fun z ns hz => ?_⟩
  obtain ⟨a, e1, e2, e3, e4⟩ := h7 z ns hz
  exact ⟨a, e1, .inl (SqL.of e2), by omega, e4⟩
theorem keys_put {kvs : List (Key × V)} {ks : List Str} (h : kvs.map (·.1) = ks.map Sum.inr) (nd : ks.Nodup) (z : Str) (v : V) : ∃ ks' : List Str, (putK kvs (.inr z) v).map (·.1) = ks'.map Sum.inr ∧ ks'.Nodup ∧ (∀ y, y ∈ ks' ↔ y ∈ ks ∨ y = z) ∧ ks'.length ≤ ks.length + 1 := by
  unfold putK
  by_cases a : (kvs.any fun kv => decide (kv.1 = .inr z)) = true
  · rw [if_pos a]
    obtain ⟨kv, hk, e⟩ := List.any_eq_true.mp a
    have e : kv.1 = .inr z := of_decide_eq_true e
    have hz : z ∈ ks := by
      have : (Sum.inr z : Key) ∈ kvs.map (·.1) := List.mem_map.mpr ⟨kv, hk, e⟩
      rw [h] at this
      obtain ⟨y, hy, e2⟩ := List.mem_map.mp this
      rw [← Sum.inr.inj e2]
      exact hy
    refine ⟨ks, ?_, nd, fun y => ⟨.inl, fun y => ?_⟩, by omega⟩
    · rw [List.map_map, ← h]
      refine List.map_congr_left fun kv _ => ?_
      show (if kv.1 = _ then (kv.1, v) else kv).1 = kv.1
      split <;> rfl
    · rcases y with y | y
      · exact y
      · rw [y]; exact hz
  · rw [if_neg a]
    have hz : z ∉ ks := fun hz => by
      have : (Sum.inr z : Key) ∈ ks.map Sum.inr := List.mem_map.mpr ⟨z, hz, rfl⟩
      rw [← h] at this
      obtain ⟨kv, hk, e⟩ := List.mem_map.mp this
      exact a (List.any_eq_true.mpr ⟨kv, hk, decide_eq_true e⟩)
    refine ⟨ks ++ [z], by rw [List.map_append, h, List.map_append]; rfl, ?_, fun y => by rw [List.mem_append, List.mem_singleton], by rw [List.length_append]; exact Nat.le_refl _⟩
    refine List.nodup_append.mpr ⟨nd, by simp, fun a ha b hb => ?_⟩
    rw [List.mem_singleton.mp hb]
    exact fun e => hz (by rw [← e]; exact ha)
theorem more_name : isName "more" = true := by decide +kernel
section
variable {P : Program} {w : World} {K : PySem.W.Frag} {mg : Str → Option Value} {base : Heap}
def spStarts : Sp := fun vs H Q _ => ∃ (p l c : Addr) (ns : List Int) (n : Nat) (g : Int) (zs : List Str), vs = [.ref p, .ref c] ∧ Pen H p l ns n g ∧ n < 900000 ∧ H c = some (.lst (zs.map V.str)) ∧ c ≠ p ∧ zs.length ≤ 3 ∧ (∀ z ∈ zs, isName z = true) ∧
  ∀ (d : Addr) (F : Str → Option (List Int)) (n' : Nat) (g' : Int) (H' : Hp), StAt H' d 4 F → (∀ z ∈ zs, (F z).isSome = true) → n' ≤ n + 24 → Off p H H' → Pen H' p l ns n' g' → (∀ z ns, F z = some ns → ns.length ≤ 4) → Q (.ref d) H'
theorem ok_starts {f fP fD : Addr} {fd fdP fdD : FuncData} (F : Fun K "_law_starts" "_law_starts" sStarts f fd) (mr : mg "range" = none) (FP : Fun K "_law_pick" "_law_pick" sPick fP fdP) (bP : Binds K fdP ["_law_pen_here", "_law_some"] []) (gP : mg "_law_pick" = some (.ref fP))
    (GP : FnOk P w K mg base CX0 2 fP fdP ["_law_pen_here", "_law_some"] (spPick K)) (FD : Fun K "_law_draw" "_law_draw" sDraw fD fdD) (bD : Binds K fdD ["_law_pen_here", "_law_many"] []) (gD : mg "_law_draw" = some (.ref fD))
    (GD : FnOk P w K mg base CX0 1 fD fdD ["_law_pen_here", "_law_many"] spDraw) : FnOk P w K mg base CX0 3 f fd ["_law_pen_here", "_law_crew_here"] spStarts := by
  refine F.ok scStarts (fun vs H Q E h => ?_) (fun cdv A outer s H vs Q E hr h => ?_)
  · obtain ⟨_, _, _, _, _, _, _, rfl, _⟩ := h
    rfl
  · obtain ⟨p, l, c, ns, n, g, zs, rfl, hp, hn, hc, hcp, hzl, hzn, q⟩ := h
    have hr1 : Room 1 _ := hr.mono (by decide)
    refine ⟨_, pss_cons (ps_set (i := 2) scStarts.nd rfl (.inl rfl) pe_dnewK)
      (pss_cons (ps_for PassesOwn.never rfl (pi_list (pe_op op_cat (pv 1) (pe_lst (pa_cons pe_str pa_nil)))) (pg_name (i := 3) scStarts.nd rfl (Or.inl rfl))
        (pss_cons (ps_set (i := 4) scStarts.nd rfl (.inr rfl) (pe_call GP hr (by rfl) gP FP.kp bP .nil pass0 (pa_cons (pv 0) (pa_cons (pe_lst (pa_cons pe_int (pa_cons pe_int (pa_cons pe_int (pa_cons pe_int (pa_cons (pe_op op_sub (pe_op op_pow pe_int pe_int) pe_int) pa_nil)))))) pa_nil))))
        (pss_one (ps_dput (hu_of hr) (pv 2) (pv 3) (pe_lc (own := [("_law_k", 5)]) (g := gName 5) (tt := tYes) rfl scStarts.nd (pi_range1 (by rfl) mr (pa_cons (pe_call GP hr (by rfl) gP FP.kp bP .nil pass0 (pa_cons (pv 0) (pa_cons (pe_lst (pa_cons pe_int (pa_cons pe_int (pa_cons pe_int (pa_cons pe_int (pa_cons pe_int pa_nil)))))) pa_nil))) pa_nil)) (blkOk_by (N := startsN) (sc := defScope sStarts) (by decide +kernel))
          (fun _ _ _ _ _ => pg_name (i := 5) scStarts.nd rfl (Or.inl rfl)) (fun _ _ _ _ _ => pts_nil) (fun _ _ _ _ _ => pe_op op_add (pv 4) (pe_call GD hr1 (by rfl) gD FD.kp bD .nil pass0 (pa_cons (pv 0) (pa_cons pe_int pa_nil))))) (by rfl)))))
      (pss_one (ps_ret (pv 2)))), ?_⟩
    have hsz := sizeLine_eq
    refine fun d hd => ?_
    have nd : d ≠ p := hp.ne hd
    have s0 := same_upd0 (o := .dK []) hd
    have hd0 : (L2.upd H d (.dK [])) d = some (.dK []) := upd_same
    have hc0 := s0 _ _ hc
    refine ⟨_, rfl, by show 1 ≤ sizeLine; decide, fun t ht => ⟨c, t, _, _, rfl, rfl, same_upd0 ht _ _ hc0, upd_same, by rw [List.length_map]; show zs.length + 1 ≤ sizeLine; omega, fun cl hcl => ?_⟩⟩
    have s1 := s0.trans ((same_upd0 (o := .lst [V.str "more"]) ht).trans (same_upd0 (o := .lst (zs.map V.str ++ [V.str "more"])) hcl))
    have hcl1 : (L2.upd (L2.upd (L2.upd H d (.dK [])) t (.lst [V.str "more"])) cl (.lst (zs.map V.str ++ [V.str "more"]))) cl = some (.lst ((zs ++ [("more" : Str)]).map V.str)) := by rw [upd_same, List.map_append]; rfl
    have hd1 := (same_upd0 (o := .lst [V.str "more"]) ht).trans (same_upd0 (o := .lst (zs.map V.str ++ [V.str "more"])) hcl) _ _ hd0
    have nlp : cl ≠ p := (hp.same (s0.trans (same_upd0 (o := .lst [V.str "more"]) ht))).ne hcl
    revert s1 hcl1 hd1
    generalize L2.upd (L2.upd (L2.upd H d (.dK [])) t (.lst [V.str "more"])) cl (.lst (zs.map V.str ++ [V.str "more"])) = H1
    intro s1 hcl1 hd1
    clear s0 hd0 hcl hc0 ht
    refine ⟨cl, rfl, ⟨_, SqL.of hcl1⟩, ?_⟩
    refine for_it walk_list (fun i σ H' => (∃ x3 x4, σ = [some (.ref p), some (.ref c), some (.ref d), x3, x4, none]) ∧ ∃ (n' : Nat) (g' : Int) (F : Str → Option (List Int)), Pen H' p l ns n' g' ∧ n' ≤ n + 6 * i ∧ Off p H H' ∧ H' cl = some (.lst ((zs ++ [("more" : Str)]).map V.str)) ∧ StAt H' d i F ∧ (∀ z ∈ (zs ++ [("more" : Str)]).take i, (F z).isSome = true) ∧ ∀ z ns, F z = some ns → ns.length ≤ 4)
      ⟨⟨_, _, rfl⟩, n, g, fun _ => none, hp.same s1, by omega, offS s1, hcl1, ⟨[], [], hd1, rfl, .nil, Nat.le_refl _, fun z => by simp, fun z hz => (nomatch hz), fun z ns e => (nomatch e)⟩, fun z hz => by simp at hz, fun z ns e => (nomatch e)⟩ (fun _ _ _ _ h => by obtain ⟨_, _, _, _, _, _, _, h, _⟩ := h; exact SqL.of h) ?_ ?_
    · rintro i x σ H2 H3 hi ⟨⟨x3, x4, rfl⟩, n1, g1, F1, pen1, hn1, off1, hcl2, st1, hF1, hF4⟩ ⟨rfl, hx⟩
      obtain ⟨z, hz, rfl⟩ : ∃ z, (zs ++ [("more" : Str)])[i]? = some z ∧ x = .str z := by
        rw [List.getElem?_map] at hx
        cases e : (zs ++ [("more" : Str)])[i]? with
        | none => rw [e] at hx; cases hx
        | some n => rw [e] at hx; exact ⟨n, rfl, (Option.some.inj hx).symm⟩
      have hzN : isName z = true := by
        rcases List.mem_append.mp (List.mem_of_getElem? hz) with h | h
        · exact hzn z h
        · rw [List.mem_singleton.mp h]; exact more_name
      have hi4 : i < 4 := by
        rw [List.length_map, List.length_append] at hi
        have : (["more"] : List Str).length = 1 := rfl
        omega
      refine ⟨_, rfl, _, _, rfl, rfl, ⟨by decide, by decide, by decide⟩, _, _, rfl, rfl, by show 5 ≤ sizeLine; decide, fun q1 hq1 => ?_⟩
      refine ⟨p, l, ns, n1, g1, _, rfl, pen1.new hq1, by omega, .inl ⟨q1, _, rfl, pen1.ne hq1, upd_same, (by show 0 < 5; decide), (by show 5 ≤ 1000; decide), fun v n3 g3 H4 hv hn3 off3 pen3 => ?_⟩⟩
      have offB := (offS (p := p) (same_upd0 hq1)).trans off3
      obtain ⟨b, hb1, hb2, rfl⟩ : ∃ b : Int, 1 ≤ b ∧ b ≤ 999999999999999999999999999996 ∧ v = .int b := by
        simp only [List.mem_cons, List.not_mem_nil, or_false] at hv
        rcases hv with h | h | h | h | h <;> subst h
        · exact ⟨_, by decide, by decide, rfl⟩
        · exact ⟨_, by decide, by decide, rfl⟩
        · exact ⟨_, by decide, by decide, rfl⟩
        · exact ⟨_, by decide, by decide, rfl⟩
        · exact ⟨_, by decide +kernel, by decide +kernel, rfl⟩
      refine ⟨_, rfl, by show 5 ≤ sizeLine; decide, fun q2 hq2 => ?_⟩
      refine ⟨p, l, ns, n3, g3, _, rfl, pen3.new hq2, by omega, .inl ⟨q2, _, rfl, pen3.ne hq2, upd_same, (by show 0 < 5; decide), (by show 5 ≤ 1000; decide), fun v n4 g4 H5 hv hn4 off4 pen4 => ?_⟩⟩
      have offC := (offS (p := p) (same_upd0 hq2)).trans off4
      obtain ⟨m, hm0, hm4, rfl⟩ : ∃ m : Int, 0 ≤ m ∧ m ≤ 4 ∧ v = .int m := by
        simp only [List.mem_cons, List.not_mem_nil, or_false] at hv
        rcases hv with h | h | h | h | h <;> subst h <;> exact ⟨_, by decide, by decide, rfl⟩
      refine ⟨_, rfl, by omega, by omega, fun D hD => ?_⟩
      have nD := pen4.ne hD
      refine lc_it (walk_range (lo := 0) (n := m.toNat)) (fun j H' => ∃ (vals : List Int) (n' : Nat) (g' : Int), Pen H' p l ns n' g' ∧ n' ≤ n4 + j ∧ Off p H5 H' ∧ H' D = some (.lst (vals.map V.int)) ∧ vals.length = j ∧ ∀ y ∈ vals, gBeg (.int y) = true)
        ⟨[], n4, g4, pen4.new hD, by omega, offS (same_upd0 hD), upd_same, rfl, fun _ h => nomatch h⟩ (fun _ _ _ _ => trivial) ?_ ?_
      · rintro j x H6 H7 hj ⟨vals, n5, g5, pen5, hn5, off5, hD5, hvl, hvb⟩ ⟨rfl, rfl⟩
        refine ⟨rfl, _, rfl, _, rfl, p, l, ns, n5, g5, _, rfl, pen5, by omega, by decide, by decide, fun e n6 g6 H8 he0 he6 hn6 off6 pen6 => ⟨_, _, rfl, rfl, _, off6 _ _ nD hD5, ?_, vals ++ [b + e], n6, g6, ?_, by omega, ?_, ?_, ?_, ?_⟩⟩
        · rw [List.length_map, hvl]
          omega
        · exact ⟨(upd_ne (Ne.symm nD)).trans pen6.pen, (upd_ne (ne_of_none pen4.cells hD)).trans pen6.cells, pen6.left⟩
        · intro c' o hc' e'
          rw [upd_ne (fun y => by rw [y, hD] at e'; cases e')]
          exact off6 _ _ hc' (off5 _ _ hc' e')
        · rw [upd_same, List.map_append]
          rfl
        · rw [List.length_append, hvl]
          rfl
        · intro y hy
          rcases List.mem_append.mp hy with h | h
          · exact hvb y h
          · rw [List.mem_singleton.mp h]
            exact decide_eq_true ⟨by omega, by omega⟩
      · rintro H6 ⟨vals, n5, g5, pen5, hn5, off5, hD5, hvl, hvb⟩
        have hv4 : vals.length ≤ 4 := by omega
        have offD := offB.trans (offC.trans off5)
        obtain ⟨kvs, ks, k1, k2, k3, k4, k5, k6, k7⟩ := st1.off pen1 offD
        have hkl : kvs.length = ks.length := by
          have := congrArg List.length k2
          rw [List.length_map, List.length_map] at this
          exact this
        refine ⟨_, rfl, _, rfl, d, _, rfl, .inl ⟨kvs, .inr z, k1, rfl, by omega, rfl⟩, ⟨_, _, rfl⟩, n5, g5, fun y => if y = z then some vals else F1 y, ?_, by omega, ?_, ?_, ?_, fun y hy => ?_, fun y ns' e => ?_⟩
        · exact ⟨(upd_ne (Ne.symm nd)).trans pen5.pen, (upd_ne (ne_of pen5.cells k1 (fun y => nomatch y))).trans pen5.cells, pen5.left⟩
        · intro b' o hb e
          rw [upd_ne (ne_of_none e hd)]
          exact offD _ _ hb (off1 _ _ hb e)
        · exact (upd_ne (ne_of (offD _ _ nlp hcl2) k1 (fun y => nomatch y))).trans (offD _ _ nlp hcl2)
        · obtain ⟨ks2, j1, j2, j3, j4⟩ := keys_put k2 k3 z (.ref D)
          refine ⟨_, ks2, upd_same, j1, j2, by omega, fun y => ?_, fun y hy => ?_, fun y ns' e => ?_⟩
          · rw [j3]
            by_cases ey : y = z
            · simp [ey]
            · simp [ey, k5]
          · rcases (j3 y).mp hy with h | h
            · exact k6 y h
            · rw [h]; exact hzN
          · rw [valV_put]
            by_cases ey : y = z
            · subst ey
              have e : (if y = y then some vals else F1 y) = some ns' := e
              rw [if_pos rfl] at e
              cases e
              exact ⟨D, if_pos rfl, (upd_ne (ne_of hD5 k1 (fun y => nomatch y))).trans hD5, by omega, hvb⟩
            · have e : (if y = z then some vals else F1 y) = some ns' := e
              rw [if_neg ey] at e
              obtain ⟨a, a1, a2, a3⟩ := k7 y ns' e
              exact ⟨a, (if_neg (fun q => ey (Sum.inr.inj q))).trans a1, (upd_ne (ne_of a2 k1 (fun y => nomatch y))).trans a2, a3⟩
        · show (if y = z then some vals else F1 y).isSome = true
          by_cases ey : y = z
          · rw [if_pos ey]; rfl
          · rw [if_neg ey]
            rw [List.take_add_one, hz] at hy
            rcases List.mem_append.mp hy with h | h
            · exact hF1 y h
            · exact absurd (List.mem_singleton.mp h) ey
        · have e : (if y = z then some vals else F1 y) = some ns' := e
          by_cases ey : y = z
          · rw [if_pos ey] at e
            cases e
            exact hv4
          · rw [if_neg ey] at e
            exact hF4 y ns' e
    · rintro σ H2 ⟨⟨x3, x4, rfl⟩, n1, g1, F1, pen1, hn1, off1, hcl2, st1, hF1, hF4⟩
      have hlen : ((zs ++ [("more" : Str)]).map V.str).length = zs.length + 1 := by rw [List.length_map, List.length_append]; rfl
      rw [hlen] at hn1 st1 hF1
      obtain ⟨kvs, ks, k1, k2, k3, k4, k5, k6, k7⟩ := st1
      refine ⟨_, rfl, q d F1 n1 g1 H2 ⟨kvs, ks, k1, k2, k3, by omega, k5, k6, k7⟩ (fun z hz => hF1 z ?_) (by omega) off1 pen1 hF4⟩
      rw [List.take_of_length_le (by rw [List.length_append]; exact Nat.le_refl _)]
      exact List.mem_append_left _ hz
end
end K13

namespace K13
open PySem PySem.Spec PyProof.Rows L2 So
abbrev sLasts : Stmt := topS 62
theorem scLasts : FnScope ["_law_begun", "_law_tool", "_law_firsts", "_law_first"] ["_law_begun", "_law_tool"] (defScope sLasts) := ⟨rfl, rfl, rfl, by decide +kernel, rfl, by decide +kernel, by decide +kernel⟩
section
variable {P : Program} {w : World} {K : PySem.W.Frag} {mg : Str → Option Value} {base : Heap}
def spLasts : Sp := fun vs H Q _ => ∃ (d : Addr) (m : Nat) (z : Str) (F : Str → Option (List Int)) (ns : List Int), vs = [.ref d, .str z] ∧ StAt H d m F ∧ F z = some ns ∧ ∀ (c : Addr) (H' : Hp), Same H H' → H' c = some (.lst ((lastsOf (0 :: srt ns)).map V.int)) → Q (.ref c) H'
theorem ok_lasts {f : Addr} {fd : FuncData} (F : Fun K "_law_lasts" "_law_lasts" sLasts f fd) (ms : mg "sorted" = none) (mt : mg "set" = none) : FnOk P w K mg base CX0 2 f fd ["_law_begun", "_law_tool"] spLasts := by
  refine F.ok scLasts (fun vs H Q E h => ?_) (fun cdv A outer s H vs Q E hr h => ?_)
  · obtain ⟨_, _, _, _, _, rfl, _⟩ := h
    rfl
  · obtain ⟨d, m, z, F, ns, rfl, ⟨kvs, ks, k1, k2, k3, k4, k5, k6, k7⟩, hz, q⟩ := h
    refine ⟨_, pss_cons (ps_set (i := 2) scLasts.nd rfl (.inl rfl) (pe_callB (cr_sortedSet rfl) (by rfl) ms (by decide +kernel) (pa_cons (pe_callTy (cr_setI2 rfl) (by rfl) mt (by decide +kernel) (pa_cons (pe_dget2 (hu_of hr) (pv 0) (pv 1) (pe_lst pa_nil) ⟨by rfl, by rfl, by rfl, by rfl⟩) pa_nil)) pa_nil)))
      (pss_one (ps_ret (pe_op op_cat (pe_lc (own := [("_law_first", 3)]) (g := gName 3) (tt := tYes) rfl scLasts.nd (pi_list (pv 2)) (blkOk_by (N := ["_law_begun", "_law_tool", "_law_firsts", "_law_first"]) (sc := defScope sLasts) (by decide +kernel))
        (fun _ _ _ _ _ => pg_name (i := 3) scLasts.nd rfl (Or.inl rfl)) (fun _ _ _ _ _ => pts_nil) (fun _ _ _ _ _ => pe_op op_sub (pv 3) pe_int)) (pe_lst (pa_cons (pe_op op_pow pe_int pe_int) pa_nil))))), ?_⟩
    have hsz := sizeLine_eq
    obtain ⟨l, e1, e2, e3, e4⟩ := k7 z ns hz
    refine ⟨_, rfl, d, rfl, .inl ⟨kvs, .inl k1⟩, _, rfl, by show 0 ≤ sizeLine; decide, fun e0 he0 => ?_⟩
    have s0 := same_upd0 (o := .lst []) he0
    refine ⟨_, DGet.k (k := Sum.inr z) (s0 _ _ k1), ?_⟩
    rw [e1]
    refine ⟨l, ns, rfl, SqL.of (s0 _ _ e2), by omega, fun p n hp hn => ⟨p, _, n, rfl, upd_same, by omega, fun xs p2 h1 h3 h4 hp2 => ?_⟩⟩
    have ex : xs = srt ns := srt_one h1 fun k => by rw [h3 k, decide_eq_true_eq]
    have hxl : xs.length ≤ 8 := by omega
    have s1 := s0.trans ((same_upd0 hp).trans (same_upd0 (o := .lst (xs.map V.int)) hp2))
    have hq : (L2.upd (L2.upd (L2.upd H e0 (.lst [])) p (SetO w p (fun k => decide (k ∈ ns)) n)) p2 (.lst (xs.map V.int))) p2 = some (.lst (xs.map V.int)) := upd_same
    refine ⟨_, rfl, p2, rfl, ⟨_, SqL.of hq⟩, fun D hD => ?_⟩
    refine lc_it walk_list (fun i H' => H' D = some (.lst ((xs.take i).map fun k => V.int (k - 1))) ∧ Same (L2.upd (L2.upd (L2.upd H e0 (.lst [])) p (SetO w p (fun k => decide (k ∈ ns)) n)) p2 (.lst (xs.map V.int))) H') ⟨upd_same, same_upd0 hD⟩ (fun _ _ _ y => SqL.of (y.2 _ _ hq)) ?_ ?_
    · rintro i x H3 H4 hi ⟨h3, s3⟩ ⟨rfl, hx⟩
      obtain ⟨k, hk, rfl⟩ : ∃ k, xs[i]? = some k ∧ x = .int k := by
        rw [List.getElem?_map] at hx
        cases e : xs[i]? with
        | none => rw [e] at hx; cases hx
        | some n => rw [e] at hx; exact ⟨n, rfl, (Option.some.inj hx).symm⟩
      refine ⟨rfl, _, rfl, _, _, rfl, rfl, _, h3, ?_, ?_, Same.over s3 hD⟩
      · rw [List.length_map, List.length_take]
        omega
      · rw [upd_same, List.take_add_one, hk, List.map_append]
        rfl
    · rintro H3 ⟨h3, s3⟩
      rw [List.length_map, List.take_length] at h3
      refine ⟨_, _, rfl, rfl, ⟨by decide, by decide, by decide⟩, by show 1 ≤ sizeLine; decide, fun t ht => ?_⟩
      have s4 := same_upd0 (o := .lst [V.int ((10 : Int) ^ Int.toNat 30)]) ht
      refine ⟨D, t, _, _, rfl, rfl, s4 _ _ h3, upd_same, ?_, fun c hc => ?_⟩
      · rw [List.length_map]
        show xs.length + 1 ≤ sizeLine
        omega
      · refine q c _ (((s1.trans s3).trans s4).trans (same_upd0 hc)) ?_
        rw [upd_same]
        unfold lastsOf
        rw [← ex, show ((0 : Int) :: xs).drop 1 = xs from rfl, List.map_append, List.map_map]
        rfl
end
end K13

namespace K13
open PySem PySem.Spec PyProof.Rows L2 So
abbrev sPairsL : Stmt := topS 63
abbrev pairsN : List Str := ["_law_row", "_law_begun", "_law_kind", "_law_one", "_law_some", "_law_two", "_law_last", "_law_other"]
theorem scPairsL : FnScope pairsN ["_law_row", "_law_begun"] (defScope sPairsL) := ⟨rfl, rfl, rfl, by decide +kernel, rfl, by decide +kernel, by decide +kernel⟩
/-- a saying as a tuple -/
abbrev tupS (x : Sg) : HO := .tup [.str x.1, .int x.2.1, .bl x.2.2]
/-- a pair of sayings as tuples -/
def TPair (H : Hp) (v : V) (p : Sg × Sg) : Prop := ∃ t a b : Addr, v = .ref t ∧ H t = some (.tup [.ref a, .ref b]) ∧ H a = some (tupS p.1) ∧ H b = some (tupS p.2)
theorem TPair.same {H H' : Hp} {v : V} {p : Sg × Sg} (h : TPair H v p) (s : Same H H') : TPair H' v p := by
  obtain ⟨t, a, b, h1, h2, h3, h4⟩ := h
  exact ⟨t, a, b, h1, s _ _ h2, s _ _ h3, s _ _ h4⟩
theorem TPair.upd {D : Addr} {H : Hp} {v : V} {p : Sg × Sg} {xs : List V} {o : HO} (h : TPair H v p) (hD : H D = some (.lst xs)) : TPair (L2.upd H D o) v p := by
  obtain ⟨t, a, b, h1, h2, h3, h4⟩ := h
  exact ⟨t, a, b, h1, (upd_ne (ne_of h2 hD (fun y => nomatch y))).trans h2, (upd_ne (ne_of h3 hD (fun y => nomatch y))).trans h3, (upd_ne (ne_of h4 hD (fun y => nomatch y))).trans h4⟩
theorem tpair {H : Hp} {t1 t2 t3 : Addr} {x y : Sg} (h1 : H t1 = none) (h2 : L2.upd H t1 (tupS x) t2 = none) (h3 : L2.upd (L2.upd H t1 (tupS x)) t2 (tupS y) t3 = none) :
    Same H (L2.upd (L2.upd (L2.upd H t1 (tupS x)) t2 (tupS y)) t3 (.tup [.ref t1, .ref t2])) ∧ TPair (L2.upd (L2.upd (L2.upd H t1 (tupS x)) t2 (tupS y)) t3 (.tup [.ref t1, .ref t2])) (.ref t3) (x, y) := by
  have s1 := same_upd0 (o := tupS x) h1
  have s2 := same_upd0 (o := tupS y) h2
  have s3 := same_upd0 (o := .tup [.ref t1, .ref t2]) h3
  exact ⟨s1.trans (s2.trans s3), t3, t1, t2, rfl, upd_same, (s2.trans s3) _ _ upd_same, s3 _ _ upd_same⟩
/-- the lives made of these beginnings -/
def lvF (F : Str → Option (List Int)) : Str → Option (List Int) := fun z => (F z).map fun l => 0 :: srt l
theorem merge_new : ∀ (more kvs : List (Key × V)), (∀ kv ∈ more, valV kvs kv.1 = none) → (more.map (·.1)).Nodup → mergeK kvs more = kvs ++ more
  | [], kvs, _, _ => by simp [mergeK]
  | x :: r, kvs, h, hn => by
    rw [List.map_cons, List.nodup_cons] at hn
    have h1 : putK kvs x.1 x.2 = kvs ++ [x] := putK_new x.2 (h x List.mem_cons_self)
    show mergeK (putK kvs x.1 x.2) r = _
    rw [h1, merge_new r (kvs ++ [x]) (fun kv hkv => ?_) hn.2, List.append_assoc]
    · rfl
    · rw [← h1, valV_put, if_neg (fun e => hn.1 (by rw [← e]; exact List.mem_map.mpr ⟨kv, hkv, rfl⟩))]
      exact h kv (List.mem_cons_of_mem _ hkv)
theorem keys_nd {a b c : V} : (([(.inr "agreed", a), (.inr "differed", b), (.inr "served", c)] : List (Key × V)).map (·.1)).Nodup := by
  show ([.inr "agreed", .inr "differed", .inr "served"] : List Key).Nodup
  decide +kernel
theorem inr_ne {a b : Str} (h : a ≠ b) : ¬ (Sum.inr a : Key) = Sum.inr b := fun e => h (Sum.inr.inj e)
abbrev kvs3 (a b c : V) : List (Key × V) := [(.inr "agreed", a), (.inr "differed", b), (.inr "served", c)]
theorem val_ag {a b c : V} : valV (kvs3 a b c) (.inr "agreed") = some a := valV_pos rfl
theorem val_di {a b c : V} : valV (kvs3 a b c) (.inr "differed") = some b := (valV_neg (inr_ne (by decide +kernel))).trans (valV_pos rfl)
theorem val_se {a b c : V} : valV (kvs3 a b c) (.inr "served") = some c := (valV_neg (inr_ne (by decide +kernel))).trans ((valV_neg (inr_ne (by decide +kernel))).trans (valV_pos rfl))
theorem val_ba {a b c : V} : valV (kvs3 a b c) (.inr "backed") = none := (valV_neg (inr_ne (by decide +kernel))).trans ((valV_neg (inr_ne (by decide +kernel))).trans (valV_neg (inr_ne (by decide +kernel))))
theorem kinds_4 : ∀ kind ∈ kinds, ¬ kind = "begun" → ¬ kind = "trusted" → ¬ kind = "found" → ¬ kind = "setby" → ¬ kind = "passed" → ¬ kind = "failed" → kind = "agreed" ∨ kind = "differed" ∨ kind = "served" ∨ kind = "backed" := by decide +kernel
theorem forms_4 : ∀ kind : Str, (kind = "agreed" ∨ kind = "differed" ∨ kind = "served" ∨ kind = "backed") → formsOf kind = (["name", "moment", "name", "moment"] : List Str) := by
  intro kind h
  rcases h with rfl | rfl | rfl | rfl <;> decide +kernel
def bsOf (kind : Str) : List (Bool × Bool) := if kind = "agreed" then [(true, false), (false, true)] else if kind = "differed" then [(true, true)] else if kind = "served" then [(false, false)] else [(true, false)]
theorem bs_len : ∀ kind : Str, (kind = "agreed" ∨ kind = "differed" ∨ kind = "served" ∨ kind = "backed") → (bsOf kind).length ≤ 2 := by
  intro kind h
  rcases h with rfl | rfl | rfl | rfl <;> decide +kernel
theorem pairs_4 {L : Str → List Int} {kind z y : Str} {m k : Int} (h : kind = "agreed" ∨ kind = "differed" ∨ kind = "served" ∨ kind = "backed") : pairsOf L kind [.str z, .int m, .str y, .int k] = (bsOf kind).map fun b => ((z, m, b.1), (y, k, b.2)) := by
  rw [pairs4]
  unfold bsOf
  split
  · rfl
  · split
    · rfl
    · split <;> rfl
section
variable {P : Program} {w : World} {K : PySem.W.Frag} {mg : Str → Option Value} {base : Heap}
def spPairsL : Sp := fun vs H Q _ => ∃ (r d : Addr) (m : Nat) (kind : Str) (xs : List V) (F : Str → Option (List Int)), vs = [.ref r, .ref d] ∧ H r = some (.tup (.str kind :: xs)) ∧ kind ∈ kinds ∧ FlatRow kind xs ∧ StAt H d m F ∧ (∀ z ∈ strsOf xs, (F z).isSome = true) ∧
  ∀ (H' : Hp) (c : Addr) (us : List V), Same H H' → H' c = some (.lst us) → Paired (TPair H') us (pairsOf (lastsF (lvF F)) kind xs) → Q (.ref c) H'
theorem ok_pairsL {f fL : Addr} {fd fdL : FuncData} (F : Fun K "_law_pairs" "_law_pairs" sPairsL f fd) (FL : Fun K "_law_lasts" "_law_lasts" sLasts fL fdL) (bL : Binds K fdL ["_law_begun", "_law_tool"] []) (gL : mg "_law_lasts" = some (.ref fL))
    (GL : FnOk P w K mg base CX0 2 fL fdL ["_law_begun", "_law_tool"] spLasts) : FnOk P w K mg base CX0 4 f fd ["_law_row", "_law_begun"] spPairsL := by
  refine F.ok scPairsL (fun vs H Q E h => ?_) (fun cdv A outer s H vs Q E hr h => ?_)
  · obtain ⟨_, _, _, _, _, _, rfl, _⟩ := h
    rfl
  · obtain ⟨r, d, m, kind, xs, F, rfl, hr0, hk, hf, hS, hT, q⟩ := h
    have hr2 : Room 2 _ := hr.mono (by decide)
    refine ⟨_, pss_cons (ps_set (i := 2) scPairsL.nd rfl (.inl rfl) (pe_ix ix_tup (pv 0) pe_int (fun _ _ => rfl)))
      (pss_cons (ps_if (pt_cmpR op_eq (pv 2) pe_str (nomark _)) (pss_one (ps_ret (pe_lst pa_nil))) pss_nil)
      (pss_cons (ps_if (pt_cmpR op_eq (pv 2) pe_str (nomark _)) (pss_one (ps_ret (pe_lc (own := [("_law_last", 6)]) (g := gName 6) (tt := tYes) rfl scPairsL.nd (pi_list (pe_call GL hr2 (by rfl) gL FL.kp bL .nil pass0 (pa_cons (pv 1) (pa_cons (pe_ix ix_tup (pv 0) pe_int (fun _ _ => rfl)) pa_nil)))) (blkOk_by (N := pairsN) (sc := defScope sPairsL) (by decide +kernel))
          (fun _ _ _ _ _ => pg_name (i := 6) scPairsL.nd rfl (Or.inl rfl)) (fun _ _ _ _ _ => pts_nil) (fun _ _ _ _ _ => (pe_tup (pa_cons (pe_tup (pa_cons (pe_ix (ix_tupK (K := K) rfl) (pv 0) pe_int (fun _ _ => rfl)) (pa_cons (pv 6) (pa_cons pe_bl pa_nil)))) (pa_cons (pe_tup (pa_cons (pe_ix (ix_tupK (K := K) rfl) (pv 0) pe_int (fun _ _ => rfl)) (pa_cons (pv 6) (pa_cons pe_bl pa_nil)))) pa_nil))))))) pss_nil)
      (pss_cons (ps_if (pt_cmpR op_eq (pv 2) pe_str (nomark _)) (pss_cons (ps_set (i := 3) scPairsL.nd rfl (.inl rfl) (pe_tup (pa_cons (pe_ix ix_tup (pv 0) pe_int (fun _ _ => rfl)) (pa_cons (pe_ix ix_tup (pv 0) pe_int (fun _ _ => rfl)) (pa_cons (pe_not (pe_ix ix_tup (pv 0) pe_int (fun _ _ => rfl))) pa_nil))))) (pss_one (ps_ret (pe_lst (pa_cons (pe_tup (pa_cons (pv 3) (pa_cons (pv 3) pa_nil))) pa_nil))))) pss_nil)
      (pss_cons (ps_if (pt_cmpR op_eq (pv 2) pe_str (nomark _)) (pss_one (ps_ret (pe_lst (pa_cons (pe_tup (pa_cons (pe_tup (pa_cons (pe_ix ix_tup (pv 0) pe_int (fun _ _ => rfl)) (pa_cons (pe_ix ix_tup (pv 0) pe_int (fun _ _ => rfl)) (pa_cons pe_bl pa_nil)))) (pa_cons (pe_tup (pa_cons (pe_ix ix_tup (pv 0) pe_int (fun _ _ => rfl)) (pa_cons (pe_ix ix_tup (pv 0) pe_int (fun _ _ => rfl)) (pa_cons pe_bl pa_nil)))) pa_nil))) pa_nil)))) pss_nil)
      (pss_cons (ps_if (pt_cmpR op_in_seq (pv 2) (pe_tup (pa_cons pe_str (pa_cons pe_str pa_nil))) (by rfl)) (pss_one (ps_ret (pe_lst (pa_cons (pe_tup (pa_cons (pe_tup (pa_cons (pe_ix ix_tup (pv 0) pe_int (fun _ _ => rfl)) (pa_cons (pe_ix ix_tup (pv 0) pe_int (fun _ _ => rfl)) (pa_cons pe_bl pa_nil)))) (pa_cons (pe_tup (pa_cons (pe_ix ix_tup (pv 0) pe_int (fun _ _ => rfl)) (pa_cons (pe_ix ix_tup (pv 0) pe_int (fun _ _ => rfl)) (pa_cons (pe_cmpR op_eq (pv 2) pe_str (nomark _)) pa_nil)))) pa_nil))) pa_nil)))) pss_nil)
      (pss_cons (ps_set (i := 4) scPairsL.nd rfl (.inl rfl) (pe_disp (pps_cons pe_str (pe_lst (pa_cons (pe_tup (pa_cons pe_bl (pa_cons pe_bl pa_nil))) (pa_cons (pe_tup (pa_cons pe_bl (pa_cons pe_bl pa_nil))) pa_nil))) (pps_cons pe_str (pe_lst (pa_cons (pe_tup (pa_cons pe_bl (pa_cons pe_bl pa_nil))) pa_nil)) (pps_cons pe_str (pe_lst (pa_cons (pe_tup (pa_cons pe_bl (pa_cons pe_bl pa_nil))) pa_nil)) pps_nil))) rfl rfl (by simp) (by decide)))
      (pss_cons (ps_cut (ps_set (i := 5) scPairsL.nd rfl (.inl rfl) (pe_dget2 (hu_of hr) (pv 4) (pv 2) (pe_lst (pa_cons (pe_tup (pa_cons pe_bl (pa_cons pe_bl pa_nil))) pa_nil)) ⟨by rfl, by rfl, by rfl, by rfl⟩)))
      (pss_one (ps_ret (pe_lc (own := [("_law_one", 3), ("_law_other", 7)]) (g := gTup K 2 (gCons (gName 3) (gCons (gName 7) gNil))) (tt := tYes) rfl scPairsL.nd (pi_list (pv 5)) (blkOk_by (N := pairsN) (sc := defScope sPairsL) (by decide +kernel))
          (fun _ _ _ _ _ => pg_tup rfl (pgs_cons (pg_name (i := 3) scPairsL.nd rfl (Or.inl rfl)) (pgs_cons (pg_name (i := 7) scPairsL.nd rfl (Or.inl rfl)) pgs_nil))) (fun _ _ _ _ _ => pts_nil)
          (fun _ _ _ _ _ => (pe_tup (pa_cons (pe_tup (pa_cons (pe_ix (ix_tupK (K := K) rfl) (pv 0) pe_int (fun _ _ => rfl)) (pa_cons (pe_ix (ix_tupK (K := K) rfl) (pv 0) pe_int (fun _ _ => rfl)) (pa_cons (pv 3) pa_nil)))) (pa_cons (pe_tup (pa_cons (pe_ix (ix_tupK (K := K) rfl) (pv 0) pe_int (fun _ _ => rfl)) (pa_cons (pe_ix (ix_tupK (K := K) rfl) (pv 0) pe_int (fun _ _ => rfl)) (pa_cons (pv 7) pa_nil)))) pa_nil)))))))))))))), ?_⟩
    have hsz := sizeLine_eq
    obtain ⟨kvs, ks, k1, k2, k3, k4, k5, k6, k7⟩ := id hS
    refine ⟨_, rfl, r, _, 0, _, rfl, rfl, SqT.of hr0, atI_nat (j := 0) rfl, ?_⟩
    -- begun
    refine ⟨_, rfl, rfl, _, rfl, ite2 (fun e => ?_) (fun e1 => ?_)⟩
    · obtain rfl : kind = "begun" := V.str.inj (of_decide_eq_true e)
      obtain ⟨z, m, rfl, _⟩ := sh2 hf (by decide +kernel)
      exact ⟨by show 0 ≤ sizeLine; decide, fun c hc => q _ c [] (same_upd0 hc) upd_same .nil⟩
    replace e1 : ¬ kind = "begun" := fun e => e1 (decide_eq_true (by rw [e]))
    -- trusted
    refine ⟨_, rfl, rfl, _, rfl, ite2 (fun e => ?_) (fun e2 => ?_)⟩
    · obtain rfl : kind = "trusted" := V.str.inj (of_decide_eq_true e)
      obtain ⟨z, rfl, hz⟩ := sh1 hf (by decide +kernel)
      obtain ⟨ns, eF⟩ : ∃ ns, F z = some ns := Option.isSome_iff_exists.mp (hT z (by simp [strsOf]))
      have hns : ns.length ≤ 8 := by
        obtain ⟨_, _, _, h, _⟩ := k7 z ns eF
        exact h
      have hlen : (lastsOf (0 :: srt ns)).length ≤ 9 := by
        have h1 := lastsOf_len (0 :: srt ns) (fun e => nomatch e)
        have h2 := srt_len ns
        have h3 : (0 :: srt ns).length = (srt ns).length + 1 := rfl
        omega
      have eL : lastsF (lvF F) z = lastsOf (0 :: srt ns) := by unfold lastsF lvF; rw [eF]; rfl
      refine ⟨_, rfl, _, rfl, r, _, 1, _, rfl, rfl, SqT.of hr0, atI_nat (j := 1) rfl, d, m, z, F, ns, rfl, hS, eF, fun c H1 s1 hc => ?_⟩
      refine ⟨c, rfl, ⟨_, SqL.of hc⟩, fun D hD => ?_⟩
      have hp : pairsOf (lastsF (lvF F)) "trusted" [.str z] = (lastsOf (0 :: srt ns)).map fun m => ((z, m, false), (z, m, false)) := by
        show ((lastsF (lvF F) z).map _) = _
        rw [eL]
      rw [hp] at q
      generalize lastsOf (0 :: srt ns) = ls at hlen hc q
      refine lc_it walk_list (fun k H' => Same H1 H' ∧ ∃ us : List V, us.length = k ∧ H' D = some (.lst us) ∧ Paired (TPair H') us ((ls.take k).map fun m => ((z, m, false), (z, m, false)))) ⟨Same.over (Same.refl H1) hD, [], rfl, upd_same, .nil⟩ (fun _ _ _ y => SqL.of (y.1 _ _ hc)) ?_ ?_
      · rintro k x H2 H3 hk1 ⟨s2, us, hul, hDu, hpu⟩ ⟨rfl, hx⟩
        obtain ⟨m, hm, rfl⟩ : ∃ m, ls[k]? = some m ∧ x = .int m := by
          rw [List.getElem?_map] at hx
          cases e : ls[k]? with
          | none => rw [e] at hx; cases hx
          | some n => rw [e] at hx; exact ⟨n, rfl, (Option.some.inj hx).symm⟩
        have hk2 : k < ls.length := by rw [List.length_map] at hk1; exact hk1
        have hr2' := s2 _ _ (s1 _ _ hr0)
        refine ⟨rfl, _, rfl, r, _, 1, _, rfl, rfl, SqT.of hr2', atI_nat (j := 1) rfl, _, rfl, by show 3 ≤ sizeLine; decide, fun t1 h1 => ?_⟩
        refine ⟨_, rfl, r, _, 1, _, rfl, rfl, SqT.of (same_upd0 h1 _ _ hr2'), atI_nat (j := 1) rfl, _, rfl, by show 3 ≤ sizeLine; decide, fun t2 h2 => ⟨by show 2 ≤ sizeLine; decide, fun t3 h3 => ?_⟩⟩
        obtain ⟨sP, tP⟩ := tpair (x := (z, m, false)) (y := (z, m, false)) h1 h2 h3
        have hD4 := sP _ _ hDu
        refine ⟨_, hD4, by omega, Same.over (s2.trans sP) hD, us ++ [.ref t3], by rw [List.length_append, hul]; rfl, upd_same, ?_⟩
        rw [List.take_add_one, hm, List.map_append]
        exact (L2.Paired.mapP hpu fun _ _ e => TPair.upd (TPair.same e sP) hD4).snoc (TPair.upd tP hD4)
      · rintro H2 ⟨s2, us, hul, hDu, hpu⟩
        rw [List.length_map, List.take_of_length_le (Nat.le_refl _)] at hpu
        exact q H2 D us (s1.trans s2) hDu hpu
    replace e2 : ¬ kind = "trusted" := fun e => e2 (decide_eq_true (by rw [e]))
    -- found
    refine ⟨_, rfl, rfl, _, rfl, ite2 (fun e => ?_) (fun e3 => ?_)⟩
    · obtain rfl : kind = "found" := V.str.inj (of_decide_eq_true e)
      obtain ⟨z, m, b, rfl, _⟩ := shT hf (by decide +kernel)
      refine ⟨_, rfl, r, _, 1, _, rfl, rfl, SqT.of hr0, atI_nat (j := 1) rfl, _, rfl, r, _, 2, _, rfl, rfl, SqT.of hr0, atI_nat (j := 2) rfl, _, rfl, r, _, 3, _, rfl, rfl, SqT.of hr0, atI_nat (j := 3) rfl, b, rfl, by show 3 ≤ sizeLine; decide, fun t1 h1 => ⟨_, rfl, _, rfl, by show 2 ≤ sizeLine; decide, fun t3 h3 => ⟨by show 1 ≤ sizeLine; decide, fun c hc => ?_⟩⟩⟩
      have s1 := same_upd0 (o := tupS (z, m, !b)) h1
      have s2 := same_upd0 (o := .tup [.ref t1, .ref t1]) h3
      have s3 := same_upd0 (o := .lst [.ref t3]) hc
      have u1 := (s2.trans s3) _ _ (show (L2.upd H t1 (tupS (z, m, !b))) t1 = _ from upd_same)
      exact q _ c [.ref t3] (s1.trans (s2.trans s3)) upd_same (.cons ⟨t3, t1, t1, rfl, s3 _ _ upd_same, u1, u1⟩ .nil)
    replace e3 : ¬ kind = "found" := fun e => e3 (decide_eq_true (by rw [e]))
    -- setby
    refine ⟨_, rfl, rfl, _, rfl, ite2 (fun e => ?_) (fun e4 => ?_)⟩
    · obtain rfl : kind = "setby" := V.str.inj (of_decide_eq_true e)
      obtain ⟨z, m, y, rfl, _⟩ := sh3 hf (.inl (by decide +kernel))
      rw [pairs3, if_pos rfl] at q
      refine ⟨_, rfl, r, _, 1, _, rfl, rfl, SqT.of hr0, atI_nat (j := 1) rfl, _, rfl, r, _, 2, _, rfl, rfl, SqT.of hr0, atI_nat (j := 2) rfl, by show 3 ≤ sizeLine; decide, fun t1 h1 => ?_⟩
      have hr1 := same_upd0 (o := tupS (z, m, true)) h1 _ _ hr0
      refine ⟨_, rfl, r, _, 3, _, rfl, rfl, SqT.of hr1, atI_nat (j := 3) rfl, _, rfl, r, _, 2, _, rfl, rfl, SqT.of hr1, atI_nat (j := 2) rfl, by show 3 ≤ sizeLine; decide, fun t2 h2 => ⟨by show 2 ≤ sizeLine; decide, fun t3 h3 => ⟨by show 1 ≤ sizeLine; decide, fun c hc => ?_⟩⟩⟩
      obtain ⟨sP, tP⟩ := tpair (x := (z, m, true)) (y := (y, m, false)) h1 h2 h3
      have s3 := same_upd0 (o := .lst [.ref t3]) hc
      exact q _ c [.ref t3] (sP.trans s3) upd_same (.cons (TPair.same tP s3) .nil)
    replace e4 : ¬ kind = "setby" := fun e => e4 (decide_eq_true (by rw [e]))
    -- passed, failed
    refine ⟨_, rfl, by show 2 ≤ sizeLine; decide, fun tp htp => ⟨tp, _, rfl, .inr (SqT.of upd_same), rfl, flat_strs ["passed", "failed"], ?_⟩⟩
    have s0 := same_upd0 (o := .tup [.str "passed", .str "failed"]) htp
    rw [show (if false = true then !inV (V.str kind) [V.str "passed", V.str "failed"] else inV (V.str kind) [V.str "passed", V.str "failed"]) = (["passed", "failed"] : List Str).contains kind from inV_strs kind ["passed", "failed"]]
    have hr1 := s0 _ _ hr0
    revert s0 hr1
    generalize L2.upd H tp (.tup [.str "passed", .str "failed"]) = H0
    intro s0 hr1
    refine ⟨_, rfl, ite2 (fun e => ?_) (fun e5 => ?_)⟩
    · have hkk : kind = "passed" ∨ kind = "failed" := by simpa using e
      obtain ⟨z, m, y, rfl, _⟩ := sh3 hf (.inr (by rcases hkk with rfl | rfl <;> decide +kernel))
      rw [pairs3, if_neg e4] at q
      refine ⟨_, rfl, r, _, 3, _, rfl, rfl, SqT.of hr1, atI_nat (j := 3) rfl, _, rfl, r, _, 2, _, rfl, rfl, SqT.of hr1, atI_nat (j := 2) rfl, by show 3 ≤ sizeLine; decide, fun t1 h1 => ?_⟩
      have hr2 := same_upd0 (o := tupS (y, m, true)) h1 _ _ hr1
      refine ⟨_, rfl, r, _, 1, _, rfl, rfl, SqT.of hr2, atI_nat (j := 1) rfl, _, rfl, r, _, 2, _, rfl, rfl, SqT.of hr2, atI_nat (j := 2) rfl, _, rfl, rfl, by show 3 ≤ sizeLine; decide, fun t2 h2 => ⟨by show 2 ≤ sizeLine; decide, fun t3 h3 => ⟨by show 1 ≤ sizeLine; decide, fun c hc => ?_⟩⟩⟩
      obtain ⟨sP, tP⟩ := tpair (x := (y, m, true)) (y := (z, m, decide (V.str kind = V.str "failed"))) h1 h2 h3
      have s3 := same_upd0 (o := .lst [.ref t3]) hc
      exact q _ c [.ref t3] (s0.trans (sP.trans s3)) upd_same (.cons (TPair.same tP s3) .nil)
    -- the meetings
    have e5 : ¬ kind = "passed" ∧ ¬ kind = "failed" := by simpa using e5
    have h4 := kinds_4 kind hk e1 e2 e3 e4 e5.1 e5.2
    obtain ⟨z, m, y, k, rfl, _⟩ := sh4 hf (forms_4 kind h4)
    rw [pairs_4 h4] at q
    intro dt hdt
    refine ⟨by show 2 ≤ sizeLine; decide, fun t1 h1 => ⟨by show 2 ≤ sizeLine; decide, fun t2 h2 => ⟨by show 2 ≤ sizeLine; decide, fun l1 g1 => ⟨by show 2 ≤ sizeLine; decide, fun t3 h3 => ⟨by show 1 ≤ sizeLine; decide, fun l2 g2 => ⟨by show 2 ≤ sizeLine; decide, fun t4 h4' => ⟨by show 1 ≤ sizeLine; decide, fun l3 g3 => ?_⟩⟩⟩⟩⟩⟩⟩
    have a0 := same_upd0 (o := .dK []) hdt
    have a1 := same_upd0 (o := .tup [.bl true, .bl false]) h1
    have a2 := same_upd0 (o := .tup [.bl false, .bl true]) h2
    have a3 := same_upd0 (o := .lst [.ref t1, .ref t2]) g1
    have a4 := same_upd0 (o := .tup [.bl true, .bl true]) h3
    have a5 := same_upd0 (o := .lst [.ref t3]) g2
    have a6 := same_upd0 (o := .tup [.bl false, .bl false]) h4'
    have a7 := same_upd0 (o := .lst [.ref t4]) g3
    have b0 := (a1.trans (a2.trans (a3.trans (a4.trans (a5.trans (a6.trans a7)))))) _ _ (show (L2.upd H0 dt (.dK [])) dt = _ from upd_same)
    have b1 := (a2.trans (a3.trans (a4.trans (a5.trans (a6.trans a7))))) _ _ (show _ = some (HO.tup [.bl true, .bl false]) from upd_same)
    have b2 := (a3.trans (a4.trans (a5.trans (a6.trans a7)))) _ _ (show _ = some (HO.tup [.bl false, .bl true]) from upd_same)
    have b3 := (a4.trans (a5.trans (a6.trans a7))) _ _ (show _ = some (HO.lst [.ref t1, .ref t2]) from upd_same)
    have b4 := (a5.trans (a6.trans a7)) _ _ (show _ = some (HO.tup [.bl true, .bl true]) from upd_same)
    have b5 := (a6.trans a7) _ _ (show _ = some (HO.lst [.ref t3]) from upd_same)
    have b6 := a7 _ _ (show _ = some (HO.tup [.bl false, .bl false]) from upd_same)
    have b7 := upd_same (H := L2.upd (L2.upd (L2.upd (L2.upd (L2.upd (L2.upd (L2.upd H0 dt (.dK [])) t1 (.tup [.bl true, .bl false])) t2 (.tup [.bl false, .bl true])) l1 (.lst [.ref t1, .ref t2])) t3 (.tup [.bl true, .bl true])) l2 (.lst [.ref t3])) t4 (.tup [.bl false, .bl false])) (a := l3) (o := .lst [.ref t4])
    have aA := a0.trans (a1.trans (a2.trans (a3.trans (a4.trans (a5.trans (a6.trans a7))))))
    revert b0 b1 b2 b3 b4 b5 b6 b7 aA
    generalize L2.upd (L2.upd (L2.upd (L2.upd (L2.upd (L2.upd (L2.upd (L2.upd H0 dt (.dK [])) t1 (.tup [.bl true, .bl false])) t2 (.tup [.bl false, .bl true])) l1 (.lst [.ref t1, .ref t2])) t3 (.tup [.bl true, .bl true])) l2 (.lst [.ref t3])) t4 (.tup [.bl false, .bl false])) l3 (.lst [.ref t4]) = H1
    intro b0 b1 b2 b3 b4 b5 b6 b7 aA
    refine ⟨b0, [(.inr "agreed", .ref l1), (.inr "differed", .ref l2), (.inr "served", .ref l3)], rfl, by show 3 ≤ 15; decide, ?_⟩
    rw [merge_new [(.inr "agreed", .ref l1), (.inr "differed", .ref l2), (.inr "served", .ref l3)] [] (fun _ _ => rfl) keys_nd, List.nil_append]
    have aB : Same H0 (L2.upd H1 dt (.dK [(.inr "agreed", .ref l1), (.inr "differed", .ref l2), (.inr "served", .ref l3)])) := fun c o z => by
      rw [upd_ne (ne_of_none z hdt)]
      exact aA c o z
    have c1 := (upd_ne (o := .dK [(.inr "agreed", .ref l1), (.inr "differed", .ref l2), (.inr "served", .ref l3)]) (ne_of b1 b0 (fun y => nomatch y))).trans b1
    have c2 := (upd_ne (o := .dK [(.inr "agreed", .ref l1), (.inr "differed", .ref l2), (.inr "served", .ref l3)]) (ne_of b2 b0 (fun y => nomatch y))).trans b2
    have c3 := (upd_ne (o := .dK [(.inr "agreed", .ref l1), (.inr "differed", .ref l2), (.inr "served", .ref l3)]) (ne_of b3 b0 (fun y => nomatch y))).trans b3
    have c4 := (upd_ne (o := .dK [(.inr "agreed", .ref l1), (.inr "differed", .ref l2), (.inr "served", .ref l3)]) (ne_of b4 b0 (fun y => nomatch y))).trans b4
    have c5 := (upd_ne (o := .dK [(.inr "agreed", .ref l1), (.inr "differed", .ref l2), (.inr "served", .ref l3)]) (ne_of b5 b0 (fun y => nomatch y))).trans b5
    have c6 := (upd_ne (o := .dK [(.inr "agreed", .ref l1), (.inr "differed", .ref l2), (.inr "served", .ref l3)]) (ne_of b6 b0 (fun y => nomatch y))).trans b6
    have c7 := (upd_ne (o := .dK [(.inr "agreed", .ref l1), (.inr "differed", .ref l2), (.inr "served", .ref l3)]) (ne_of b7 b0 (fun y => nomatch y))).trans b7
    have c0 := upd_same (H := H1) (a := dt) (o := .dK [(.inr "agreed", .ref l1), (.inr "differed", .ref l2), (.inr "served", .ref l3)])
    revert aB c0 c1 c2 c3 c4 c5 c6 c7
    generalize L2.upd H1 dt (.dK [(.inr "agreed", .ref l1), (.inr "differed", .ref l2), (.inr "served", .ref l3)]) = H2
    intro aB c1 c2 c3 c4 c5 c6 c7 c0
    refine ⟨fun σ G => ∃ (lw : Addr) (ts : List Addr), σ = [some (.ref r), some (.ref d), some (.str kind), none, some (.ref dt), some (.ref lw), none, none] ∧ Same H2 G ∧ G lw = some (.lst (ts.map V.ref)) ∧ Paired (fun t b => G t = some (.tup [.bl b.1, .bl b.2])) ts (bsOf kind), ?_, ?_⟩
    · refine ⟨_, rfl, dt, rfl, .inl ⟨_, .inl c0⟩, _, rfl, by show 2 ≤ sizeLine; decide, fun t5 h5 => ⟨by show 1 ≤ sizeLine; decide, fun l4 g4 => ?_⟩⟩
      have s5 := (same_upd0 (o := .tup [.bl true, .bl false]) h5).trans (same_upd0 (o := .lst [.ref t5]) g4)
      refine ⟨_, DGet.k (k := Sum.inr kind) (s5 _ _ c0), ?_⟩
      rcases h4 with rfl | rfl | rfl | rfl
      · rw [val_ag]
        exact ⟨l1, [t1, t2], rfl, s5, s5 _ _ c3, .cons (s5 _ _ c1) (.cons (s5 _ _ c2) .nil)⟩
      · rw [val_di]
        exact ⟨l2, [t3], rfl, s5, s5 _ _ c5, .cons (s5 _ _ c4) .nil⟩
      · rw [val_se]
        exact ⟨l3, [t4], rfl, s5, s5 _ _ c7, .cons (s5 _ _ c6) .nil⟩
      · rw [val_ba]
        exact ⟨l4, [t5], rfl, s5, upd_same, .cons (same_upd0 g4 _ _ upd_same) .nil⟩
    · rintro σ G ⟨lw, ts, rfl, sG, hlw, hpt⟩
      have sAll := s0.trans (aB.trans sG)
      have hrG := sAll _ _ hr0
      have hbl : ts.length ≤ 2 := by rw [paired_len hpt]; exact bs_len kind h4
      generalize bsOf kind = bs at hpt q
      refine ⟨_, rfl, lw, rfl, ⟨_, SqL.of hlw⟩, fun D hD => ?_⟩
      refine lc_it walk_list (fun i H' => Same G H' ∧ ∃ us : List V, us.length = i ∧ H' D = some (.lst us) ∧ Paired (TPair H') us ((bs.take i).map fun b => ((z, m, b.1), (y, k, b.2)))) ⟨Same.over (Same.refl G) hD, [], rfl, upd_same, .nil⟩ (fun _ _ _ y => SqL.of (y.1 _ _ hlw)) ?_ ?_
      · rintro i x H3 H4 hi ⟨s3, us, hul, hDu, hpu⟩ ⟨rfl, hx⟩
        obtain ⟨t, ht, rfl⟩ : ∃ t, ts[i]? = some t ∧ x = .ref t := by
          rw [List.getElem?_map] at hx
          cases e : ts[i]? with
          | none => rw [e] at hx; cases hx
          | some n => rw [e] at hx; exact ⟨n, rfl, (Option.some.inj hx).symm⟩
        obtain ⟨b, hb, hbt⟩ := paired_get hpt ht
        rw [List.length_map] at hi
        have hr3 := s3 _ _ hrG
        refine ⟨t, _, rfl, SqT.of (s3 _ _ hbt), rfl, _, _, rfl, _, _, rfl, rfl, rfl, _, rfl, r, _, 1, _, rfl, rfl, SqT.of hr3, atI_nat (j := 1) rfl, _, rfl, r, _, 2, _, rfl, rfl, SqT.of hr3, atI_nat (j := 2) rfl, _, rfl, by show 3 ≤ sizeLine; decide, fun u1 h1 => ?_⟩
        have hr4 := same_upd0 (o := tupS (z, m, b.1)) h1 _ _ hr3
        refine ⟨_, rfl, r, _, 3, _, rfl, rfl, SqT.of hr4, atI_nat (j := 3) rfl, _, rfl, r, _, 4, _, rfl, rfl, SqT.of hr4, atI_nat (j := 4) rfl, _, rfl, by show 3 ≤ sizeLine; decide, fun u2 h2 => ⟨by show 2 ≤ sizeLine; decide, fun u3 h3 => ?_⟩⟩
        obtain ⟨sP, tP⟩ := tpair (x := (z, m, b.1)) (y := (y, k, b.2)) h1 h2 h3
        have hD4 := sP _ _ hDu
        refine ⟨_, hD4, by omega, Same.over (s3.trans sP) hD, us ++ [.ref u3], by rw [List.length_append, hul]; rfl, upd_same, ?_⟩
        rw [List.take_add_one, hb, List.map_append]
        exact (L2.Paired.mapP hpu fun _ _ e => TPair.upd (TPair.same e sP) hD4).snoc (TPair.upd tP hD4)
      · rintro H3 ⟨s3, us, hul, hDu, hpu⟩
        rw [List.length_map, paired_len hpt, List.take_of_length_le (Nat.le_refl _)] at hpu
        exact q H3 D us (sAll.trans s3) hDu hpu
end
end K13

namespace K13
open PySem PySem.Spec PyProof.Rows L2 So
abbrev sToldL : Stmt := topS 66
abbrev toldN : List Str := ["_law_pairs_here", "_law_found", "_law_one", "_law_other", "_law_left", "_law_pair"]
theorem scToldL : FnScope toldN ["_law_pairs_here"] (defScope sToldL) := ⟨rfl, rfl, rfl, by decide +kernel, rfl, by decide +kernel, by decide +kernel⟩
section
variable {P : Program} {w : World} {K : PySem.W.Frag} {mg : Str → Option Value} {base : Heap}
def spToldL (CY : Addr) : Sp := fun vs H Q _ => ∃ (t : Addr) (us : List V) (ps : List (Sg × Sg)), vs = [.ref t] ∧ H t = some (.tup us) ∧ Paired (PairAt CY H) us ps ∧ ps.length ≤ 20 ∧
  ∀ (H' : Hp) (c : Addr) (vs : List V), Same H H' → H' c = some (.lst vs) → Paired (TPair H') vs ps → Q (.ref c) H'
theorem ok_toldL {CY f : Addr} {fd : FuncData} (F : Fun K "_law_told" "_law_told" sToldL f fd) (T : Say K mg CY) (mi : mg "isinstance" = none) (mt : mg "tuple" = none) (ml : mg "len" = none) : FnOk P w K mg base CX0 2 f fd ["_law_pairs_here"] (spToldL CY) := by
  refine F.ok scToldL (fun vs H Q E h => ?_) (fun cdv A outer s H vs Q E hr h => ?_)
  · obtain ⟨_, _, _, rfl, _⟩ := h
    rfl
  · obtain ⟨t, us, ps, rfl, ht, hp, hl, q⟩ := h
    refine ⟨_, pss_cons (ps_if (pt_not (pt_val (pe_callB call_isi (by rfl) mi (by decide +kernel) (pa_cons (pv 0) (pa_cons (pe_bltn (v := .ty "tuple") (by rfl) mt (by decide +kernel) rfl) pa_nil))))) (pss_one (ps_ret pe_non)) pss_nil)
      (pss_cons (ps_if (pt_cmpR (op_neD hr.units) (pe_lc (own := [("_law_pair", 5)]) (g := gName 5) rfl scToldL.nd (pi_tup (pv 0)) (blkOk_by (N := toldN) (sc := defScope sToldL) (by decide +kernel)) (fun _ _ _ _ _ => pg_name (i := 5) scToldL.nd rfl (Or.inl rfl))
          (fun _ _ _ _ _ => pts_one (PW.pt (pw_or (pt_not (pt_val (pe_callB (isiK (K := K) rfl) (by rfl) mi (by decide +kernel) (pa_cons (pv 5) (pa_cons (pe_bltn (v := .ty "tuple") (by rfl) mt (by decide +kernel) rfl) pa_nil)))))
            (pw_or1 (pt_cmpR op_ne (pe_callB (lenK (K := K) rfl) (by rfl) ml PySem.boot_len (pa_cons (pv 5) pa_nil)) pe_int (nomark _)))))) (fun _ _ _ _ _ => pv 5)) (pe_lst pa_nil) (nomark _)) (pss_one (ps_ret pe_non)) pss_nil)
      (pss_cons (ps_set (i := 1) scToldL.nd rfl (.inl rfl) (pe_lst pa_nil))
      (pss_cons (ps_for PassesOwn.never rfl (pi_tup (pv 0)) (pg_tup rfl (pgs_cons (pg_name (i := 2) scToldL.nd rfl (Or.inl rfl)) (pgs_cons (pg_name (i := 3) scToldL.nd rfl (Or.inl rfl)) pgs_nil)))
        (pss_cons (ps_if (PW.pt (pw_or (pt_not (pt_val (pe_callB call_isi (by rfl) mi (by decide +kernel) (pa_cons (pv 2) (pa_cons (pe_glob (v := .ref CY) (by rfl) T.mgC (by rfl)) pa_nil)))))
            (pw_or1 (pt_not (pt_val (pe_callB call_isi (by rfl) mi (by decide +kernel) (pa_cons (pv 3) (pa_cons (pe_glob (v := .ref CY) (by rfl) T.mgC (by rfl)) pa_nil)))))))) (pss_one (ps_ret pe_non)) pss_nil)
        (pss_cons (ps_set (i := 4) scToldL.nd rfl (.inl rfl) (pe_tup (pa_cons (pe_fld (pv 2) rfl) (pa_cons (pe_fld (pv 2) rfl) (pa_cons (pe_fld (pv 2) rfl) pa_nil)))))
        (pss_one (ps_expr (pe_bm PySem.F.plainAttrs_list PySem.F.slot_list_append PySem.F.type_list_append mt_append (pv 1) (pa_cons (pe_tup (pa_cons (pv 4) (pa_cons (pe_tup (pa_cons (pe_fld (pv 3) rfl) (pa_cons (pe_fld (pv 3) rfl) (pa_cons (pe_fld (pv 3) rfl) pa_nil)))) pa_nil))) pa_nil)))))))
      (pss_one (ps_ret (pv 1)))))), ?_⟩
    have hsz := sizeLine_eq
    have hul : us.length ≤ 20 := by rw [paired_len hp]; exact hl
    refine ⟨_, rfl, _, _, _, _, _, rfl, .ty "tuple", .base (.tup ht), (Gv.tup ht).kitT, _, rfl, iteF ?_⟩
    refine ⟨_, rfl, t, rfl, ⟨_, SqT.of ht⟩, fun D hD => ?_⟩
    refine lc_it walk_tup (fun i H' => Same H H' ∧ H' D = some (.lst [])) ⟨Same.over (Same.refl H) hD, upd_same⟩ (fun _ _ _ y => SqT.of (y.1 _ _ ht)) ?_ ?_
    · rintro i x H1 H2 hi ⟨s1, hDi⟩ ⟨rfl, hx⟩
      obtain ⟨p, hpi, t2, a, b, rfl, e2, A1, A2⟩ := paired_get hp hx
      refine ⟨rfl, _, rfl, _, _, _, _, _, rfl, .ty "tuple", .base (.tup (s1 _ _ e2)), (Gv.tup (s1 _ _ e2)).kitT, _, rfl, iteF ?_⟩
      refine ⟨_, rfl, t2, _, rfl, .inr (SqT.of (s1 _ _ e2)), rfl, _, rfl, iteF ⟨s1, hDi⟩⟩
    · rintro H1 ⟨s1, hD1⟩
      refine ⟨by show 0 ≤ sizeLine; decide, fun e0 he0 => ?_⟩
      have s2 := s1.trans (same_upd0 (o := .lst []) he0)
      refine ⟨.list [], .list [], .lst (SqL.of (same_upd0 he0 _ _ hD1)) .nil, .lst (SqL.of upd_same) .nil, by decide, by decide, _, rfl, ite2 (fun e => absurd e (by decide)) (fun _ => ?_)⟩
      refine ⟨by show 0 ≤ sizeLine; decide, fun c hc => ?_⟩
      have s3 := s2.trans (same_upd0 (o := .lst []) hc)
      have hc3 := upd_same (H := L2.upd H1 e0 (.lst [])) (a := c) (o := .lst [])
      have hcn := s2.free hc
      revert s3 hc3
      generalize L2.upd (L2.upd H1 e0 (.lst [])) c (.lst []) = G
      intro s3 hc3
      clear s2 s1 hD1 he0 hc
      refine ⟨_, rfl, t, rfl, ⟨_, SqT.of (s3 _ _ ht)⟩, ?_⟩
      refine for_it walk_tup (fun i σ H' => (∃ x2 x3 x4, σ = [some (.ref t), some (.ref c), x2, x3, x4, none]) ∧ Same H H' ∧ ∃ vs : List V, vs.length = i ∧ H' c = some (.lst vs) ∧ Paired (TPair H') vs (ps.take i)) ⟨⟨_, _, _, rfl⟩, s3, [], rfl, hc3, .nil⟩ (fun _ _ _ _ y => SqT.of (y.2.1 _ _ ht)) ?_ ?_
      · rintro i x σ H2 H3 hi ⟨⟨x2, x3, x4, rfl⟩, s4, vs, hvl, hcv, hpv⟩ ⟨rfl, hx⟩
        obtain ⟨p, hpi, t2, a, b, rfl, e2, A1, A2⟩ := paired_get hp hx
        obtain ⟨⟨z, m, u⟩, ⟨y, k, v⟩⟩ := p
        obtain ⟨dxa, ea⟩ := id A1
        obtain ⟨dxb, eb⟩ := id A2
        have ea := s4 _ _ ea
        have eb := s4 _ _ eb
        refine ⟨t2, _, rfl, SqT.of (s4 _ _ e2), rfl, _, _, rfl, _, _, rfl, rfl, ?_⟩
        refine ⟨_, rfl, _, _, _, _, _, rfl, .own CY, .base (.ins ea T.cl T.ha T.hn T.htk T.hm), T.me, _, rfl, iteF ?_⟩
        refine ⟨_, rfl, _, _, _, _, _, rfl, .own CY, .base (.ins eb T.cl T.ha T.hn T.htk T.hm), T.me, _, rfl, iteF ?_⟩
        refine ⟨_, rfl, a, CY, dxa, _, _, rfl, ea, T.cl, T.nT, sf_tool z m u, _, rfl, a, CY, dxa, _, _, rfl, ea, T.cl, T.nM, sf_moment z m u, _, rfl, a, CY, dxa, _, _, rfl, ea, T.cl, T.nS, sf_sound z m u, by show 3 ≤ sizeLine; decide, fun t4 h4 => ?_⟩
        have s5 := same_upd0 (o := tupS (z, m, u)) h4
        have eb5 := s5 _ _ eb
        refine ⟨_, rfl, .inl ⟨rfl, _, SqL.of (s5 _ _ hcv)⟩, _, rfl, _, rfl, b, CY, dxb, _, _, rfl, eb5, T.cl, T.nT, sf_tool y k v, _, rfl, b, CY, dxb, _, _, rfl, eb5, T.cl, T.nM, sf_moment y k v, _, rfl, b, CY, dxb, _, _, rfl, eb5, T.cl, T.nS, sf_sound y k v, by show 3 ≤ sizeLine; decide, fun t5 h5 => ⟨by show 2 ≤ sizeLine; decide, fun t6 h6 => ?_⟩⟩
        obtain ⟨sP, tP⟩ := tpair (x := (z, m, u)) (y := (y, k, v)) h4 h5 h6
        have hc6 := sP _ _ hcv
        refine ⟨c, _, _, rfl, rfl, hc6, by omega, ⟨_, _, _, rfl⟩, Same.over (s4.trans sP) hcn, vs ++ [.ref t6], by rw [List.length_append, hvl]; rfl, upd_same, ?_⟩
        rw [List.take_add_one, hpi]
        exact (L2.Paired.mapP hpv fun _ _ e => TPair.upd (TPair.same e sP) hc6).snoc (TPair.upd tP hc6)
      · rintro σ H2 ⟨⟨x2, x3, x4, rfl⟩, s4, vs, hvl, hcv, hpv⟩
        rw [paired_len hp, List.take_length] at hpv
        exact ⟨_, rfl, q H2 c vs s4 hcv hpv⟩
end
end K13

namespace So
open PySem PySem.Spec PyProof.Rows L2 LamX
/-- the law's call, its tables of code objects and the guards told -/
theorem law_callTGs {P : Program} {w : World} {K : PySem.W.Frag} {mg mb : Str → Option Value} {CX : CXT} {k : Nat} {fa a : Addr} {cs : List (Addr × Addr)} {fd : FuncData} {x : Str} {sp : Sp} {s₁ : Shared} {vs : List Value} {ns : List Int}
    (KX : K.In s₁.heap) (hns : s₁.heap.Ns mainGlobals mg) (hb : s₁.heap.Ns builtinsNs mb) (hbb : ∀ x : Str, x ≠ "__name__" → mb x = bootBuiltins x) (hlim : s₁.heap.NoLimit) (hg : s₁.gens = #[])
    (tabs : ∀ q ∈ cs, s₁.heap.get? q.2 = some { cls := .none, data := .fields #[] } ∧ K.lookup q.2 = none ∧ PySem.W.CodeHd s₁.heap q.1 q.2)
    (mod : ∃ (bm : Addr) (ob : Obj), mg "__builtins__" = some (.ref bm) ∧ bm ≠ builtinsNs ∧ s₁.heap.get? bm = some ob ∧ ob.cls = .type "module" ∧ ob.dict = some builtinsNs ∧ ob.data = .plain)
    (ha : s₁.heap.get? a = some { cls := .type "list", data := .seq vs.toArray }) (hi : IntsAre vs ns) (hl : ns.length ≤ sizeLine) (hr : Room k callerA)
    (F : ∀ base : Heap, K.In base → base.Ns mainGlobals mg → (∀ q ∈ cs, TabB base mg q.1 q.2) → FnG P w K mg base CX k fa fd [x] sp) (hbind : ∀ (s : Shared) (u : Value), BindsTo s fd ⟨[u], []⟩ [(x, u)])
    (hsp : ∀ H : Hp, (∀ q ∈ cs, H q.2 = some (.tbl #[])) → SqL K H a (ns.map V.int) → sp [.ref a] H (fun v _ => v = .bl true) fun _ _ _ => False)
    (hCX : ∀ H e s', CX [] H s₁ (fun _ _ _ => False) e s' → False) :
    codeAny (model P w) callerA (.call (.ref fa) ⟨[.ref a], []⟩) (fun r s' => r = .ok (.ret (.bool true)) ∧ OldK s₁.heap s'.heap ∧ s'.os = s₁.os ∧ AllBare s'.gens) s₁ := by
  have tab : ∀ {T : Addr}, (∃ q ∈ cs, q.2 = T) → s₁.heap.get? T = some { cls := .none, data := .fields #[] } := fun ⟨q, hq, e⟩ => e ▸ (tabs q hq).1
  have noT : ∀ {T : Addr}, (∃ q ∈ cs, q.2 = T) → K.lookup T = none := fun ⟨q, hq, e⟩ => e ▸ (tabs q hq).2.1
  have aT : ¬ ∃ q ∈ cs, q.2 = a := fun z => by
    rw [tab z] at ha
    have := congrArg Obj.data (Option.some.inj ha)
    cases this
  -- what may be tracked at the start: the table, and the script where the written part does not hold it
  have go : ∀ H : Hp, (∀ q ∈ cs, H q.2 = some (.tbl #[])) → (∀ b u, H b = some u → (∃ q ∈ cs, q.2 = b) ∨ (b = a ∧ K.lookup a = none ∧ ∃ o xs, u = .frz o (.lst xs))) → SqL K H a (ns.map V.int) → HOk P w H s₁.heap →
      codeAny (model P w) callerA (.call (.ref fa) ⟨[.ref a], []⟩) (fun r s' => r = .ok (.ret (.bool true)) ∧ OldK s₁.heap s'.heap ∧ s'.os = s₁.os ∧ AllBare s'.gens) s₁ := by
    intro H hT hA hS hok
    -- an object that is neither the script's list nor the table stands in the base
    have free : ∀ {b : Addr} {o : Obj}, s₁.heap.get? b = some o → (∀ vs n, o.data ≠ .seq vs n) → o.data ≠ .fields #[] → H b = none := by
      intro b o e h1 h2
      cases q : H b with
      | none => rfl
      | some u =>
        rcases hA b u q with hb | ⟨rfl, _⟩
        · rw [tab hb] at e
          cases e
          exact absurd rfl h2
        · rw [ha] at e
          cases e
          exact absurd rfl (h1 _ _)
    have toBase : ∀ {b : Addr} {o : Obj}, s₁.heap.get? b = some o → H b = none → (hidT s₁.heap H).get? b = some o := fun e n => hidT_get e n
    have nsB : ∀ {b : Addr} {m : Str → Option Value}, s₁.heap.Ns b m → (hidT s₁.heap H).Ns b m := by
      rintro b m ⟨o, es, ep, e, d, r⟩
      have n : H b = none := by
        refine free e ?_ ?_
        · intro vs n z
          rw [d] at z
          cases z
        · intro z
          rw [d] at z
          cases z
      exact ⟨o, es, ep, toBase e n, d, r⟩
    have kin : K.In (hidT s₁.heap H) := by
      intro b o e
      refine toBase (KX b o e) ?_
      cases q : H b with
      | none => rfl
      | some u =>
        rcases hA b u q with hb | ⟨rfl, z, _⟩
        · rw [noT hb] at e
          cases e
        · rw [z] at e
          cases e
    have lim2 : (hidT s₁.heap H).NoLimit := by
      obtain ⟨mc, h1, h2⟩ := hlim
      exact ⟨mc, nsB h1, h2⟩
    have TB : ∀ q ∈ cs, TabB (hidT s₁.heap H) mg q.1 q.2 := by
      rintro ⟨c, T⟩ hq
      have tab' : s₁.heap.get? T = some { cls := .none, data := .fields #[] } := tab ⟨_, hq, rfl⟩
      have cd : PySem.W.CodeHd s₁.heap c T := (tabs _ hq).2.2
      have gT : mainGlobals ≠ T := fun z => by
        obtain ⟨o, es, ep, e, d, _⟩ := hns
        rw [z, tab'] at e
        cases e
        cases d
      have cd2 : PySem.W.CodeHd (hidT s₁.heap H) c T := by
        obtain ⟨o, us, fl, tf, fg, tg, inF, tx, tt, e1, r1, r2, r3, r⟩ := cd
        refine ⟨o, us, fl, tf, fg, tg, inF, tx, tt, toBase e1 (free e1 ?_ ?_), r1, r2, r3, r⟩
        · intro vs n z
          rw [r2] at z
          cases z
        · intro z
          rw [r2] at z
          cases z
          simp at r3
      have bm2 : (hidT s₁.heap H).BuiltinsAt mg T := by
        obtain ⟨bm, ob, b1, b2, b3, b4, b5, b6⟩ := mod
        have n1 : bm ≠ mainGlobals := fun z => by
          obtain ⟨o, es, ep, e, d, _⟩ := hns
          rw [z, e] at b3
          cases b3
          rw [d] at b6
          cases b6
        have n2 : bm ≠ T := fun z => by
          rw [z, tab'] at b3
          cases b3
          cases b6
        refine ⟨bm, ob, b1, b2, n1, n2, toBase b3 (free b3 ?_ ?_), b4, b5, b6⟩
        · intro vs n z
          rw [b6] at z
          cases z
        · intro z
          rw [b6] at z
          cases z
      exact ⟨cd2, bm2, gT⟩
    have e0 : Env0 P w K mg (hidT s₁.heap H) callerA [] s₁ H := by
      refine ⟨rfl, ⟨kin, nsB hns, ⟨mb, nsB hb, hbb⟩, lim2⟩, fun b o e => of_hidT e, Nat.le_of_eq (hidT_size _ _), True.intro, ?_, hok, .of_eq hg⟩
      intro b hb
      cases hb
    refine codeAny_mono ((F _ kin (nsB hns) TB).runG callerA [] s₁ H ⟨[.ref a], []⟩ [.ref a] [.ref a] _ _ rfl hr e0 (hbind s₁ (.ref a)) (.cons rfl .nil) (hsp H hT hS)) fun r s' h => ?_
    match r, h with
    | .error e, h => exact (hCX H e s' h).elim
    | .ok .next, h => exact h.elim
    | .ok .brk, h => exact h.elim
    | .ok .cont, h => exact h.elim
    | .ok (.ret u), ⟨v, H', os, bare, un, hok', rv, q⟩ =>
      have q2 : v = .bl true := q
      subst q2
      cases rv
      have grown : ∀ {T : Addr}, (∃ q ∈ cs, q.2 = T) → ∃ more : Array Value, s'.heap.get? T = some { cls := .none, data := .fields (#[] ++ more) } := by
        rintro T ⟨q, hq, rfl⟩
        obtain ⟨more, hm⟩ := un.tbls q.2 #[] (hT q hq)
        exact ⟨more, hok' q.2 _ hm⟩
      have stay : ∀ b o, (¬ ∃ q ∈ cs, q.2 = b) → s₁.heap.get? b = some o → s'.heap.get? b = some o := by
        intro b o n e
        cases q : H b with
        | none => exact un.keep b o e q (fun z => nomatch z) (fun z => nomatch z)
        | some u =>
          rcases hA b u q with z | ⟨_, _, ob, xs, rfl⟩
          · exact absurd z n
          · have z1 := (hok b _ q).1
            have z2 := (hok' b _ (un.frzs b ob _ q)).1
            rw [z1] at e
            rw [z2, e]
      refine ⟨rfl, ⟨fun b o e => ?_, fun b o e => ?_⟩, os, bare⟩
      · by_cases n : ∃ q ∈ cs, q.2 = b
        · obtain ⟨more, hg⟩ := grown n
          have tb := tab n
          obtain ⟨q, hq, rfl⟩ := n
          rw [tb] at e
          cases e
          exact .inr (.inl ⟨((tabs q hq).2.2.tab tb).isCodeTable, rfl, #[], more, rfl, hg⟩)
        · exact .inl (stay b o n e)
      · by_cases n : ∃ q ∈ cs, q.2 = b
        · obtain ⟨more, hg⟩ := grown n
          exact ⟨_, hg⟩
        · exact ⟨o, stay b o n e⟩
  have rv := vals_ints hi
  have hlen : (ns.map V.int).length ≤ sizeLine := by rw [List.length_map]; exact hl
  cases hk : K.lookup a with
  | some o =>
    have e := KX a o hk
    rw [ha] at e
    cases e
    refine go (fun b => open Classical in if ∃ q ∈ cs, q.2 = b then some (.tbl #[]) else none) (fun q hq => if_pos ⟨q, hq, rfl⟩) (fun b u z => ?_) (Or.inr ⟨_, vs.toArray, _, hk, rfl, rfl, rfl, by rw [List.size_toArray, hi.length]; exact hl, by simpa using rv⟩) fun b u z => ?_
    · try dsimp only at z
      by_cases n : ∃ q ∈ cs, q.2 = b
      · exact Or.inl n
      · rw [if_neg n] at z
        cases z
    · try dsimp only at z
      by_cases n : ∃ q ∈ cs, q.2 = b
      · rw [if_pos n] at z
        cases z
        exact tab n
      · rw [if_neg n] at z
        cases z
  | none =>
    refine go (fun b => open Classical in if ∃ q ∈ cs, q.2 = b then some (.tbl #[]) else if b = a then some (.frz { cls := .type "list", data := .seq vs.toArray } (.lst (ns.map V.int))) else none) (fun q hq => if_pos ⟨q, hq, rfl⟩) (fun b u z => ?_) (Or.inl (Or.inr ⟨_, (if_neg aT).trans (if_pos rfl)⟩)) fun b u z => ?_
    · try dsimp only at z
      by_cases n : ∃ q ∈ cs, q.2 = b
      · exact Or.inl n
      · rw [if_neg n] at z
        by_cases n2 : b = a
        · rw [if_pos n2] at z
          cases z
          exact Or.inr ⟨n2, hk, _, _, rfl⟩
        · rw [if_neg n2] at z
          cases z
    · try dsimp only at z
      by_cases n : ∃ q ∈ cs, q.2 = b
      · rw [if_pos n] at z
        cases z
        exact tab n
      · rw [if_neg n] at z
        by_cases n2 : b = a
        · rw [if_pos n2] at z
          cases z
          rw [n2]
          exact ⟨ha, hlen, vs, _, rv, ha⟩
        · rw [if_neg n2] at z
          cases z
end So

/-! a part of an expression walked by itself: what follows it is said once -/
namespace So
open PySem PySem.Spec PyProof.Rows L2
theorem pe_cut {X : Cx} {e : Expr} {t : TE} (h : PE X e t) : PE X e (fun σ H Q => ∃ Q0 : VK, t σ H Q0 ∧ ∀ v H', Q0 v H' → Q v H') :=
  ⟨fun pins s σ H Q I ⟨Q0, h1, h2⟩ => thn (h.run pins s σ H Q0 I h1) fun u s' ⟨v, H', I', r, q⟩ => ⟨v, H', I', r, h2 v H' q⟩⟩
end So

namespace K13
open PySem PySem.Spec PyProof.Rows L2 So LamX
def OffN (p : Addr) (H H' : Hp) : Prop := ∀ b o, b ≠ p → H b = some o → (∀ ps, o ≠ .tbl ps) → H' b = some o
theorem extN_of {H H' : Hp} (s : Same H H') : ExtN H H' := fun b o e _ => s b o e
theorem lst_ne {xs : List V} : ∀ ps, HO.lst xs ≠ .tbl ps := fun ps z => nomatch z
theorem tup_ne {xs : List V} : ∀ ps, HO.tup xs ≠ .tbl ps := fun ps z => nomatch z
theorem ins_ne {C d : Addr} {fs : List (Str × V)} : ∀ ps, HO.ins C d fs ≠ .tbl ps := fun ps z => nomatch z
theorem dk_ne {kvs : List (Key × V)} : ∀ ps, HO.dK kvs ≠ .tbl ps := fun ps z => nomatch z
theorem tabs_off {T : List (Addr × Str)} {H H' : Hp} {p : Addr} {xs : List V} (hp : H p = some (.lst xs)) (t : Tabs T H) (o : Off p H H') : Tabs T H' := by
  intro y hy
  obtain ⟨ps, h1, h2, h3⟩ := t y hy
  refine ⟨ps, o _ _ (ne_of h1 hp (fun z => nomatch z)) h1, h2, fun pos cv hc => ?_⟩
  obtain ⟨c, e1, e2⟩ := h3 pos cv hc
  refine ⟨c, e1, o _ _ (fun z => ?_) e2⟩
  rw [z, hp] at e2
  cases e2
theorem tabs_same {T : List (Addr × Str)} {H H' : Hp} (t : Tabs T H) (s : Same H H') : Tabs T H' := t.ext s
theorem pen_ext {H H' : Hp} {p l : Addr} {ns : List Int} {n : Nat} {g : Int} (h : Pen H p l ns n g) (s : ExtN H H') : Pen H' p l ns n g := ⟨s _ _ h.pen lst_ne, s _ _ h.cells lst_ne, h.left⟩
theorem RowAt.ext {Cf : Str → Addr} {H H' : Hp} {a : Addr} {kind : Str} {xs : List V} (h : RowAt Cf H a kind xs) (s : ExtN H H') : RowAt Cf H' a kind xs := by
  obtain ⟨dx, fs, e, t1, ⟨tp, t2, t3⟩, t4⟩ := h
  exact ⟨dx, fs, s _ _ e ins_ne, t1, ⟨tp, t2, s _ _ t3 tup_ne⟩, t4⟩
theorem RowAt.off {Cf : Str → Addr} {H H' : Hp} {a p : Addr} {kind : Str} {xs ys : List V} (h : RowAt Cf H a kind xs) (hp : H p = some (.lst ys)) (s : Off p H H') : RowAt Cf H' a kind xs := by
  obtain ⟨dx, fs, e, t1, ⟨tp, t2, t3⟩, t4⟩ := h
  exact ⟨dx, fs, s _ _ (ne_of e hp (fun z => nomatch z)) e, t1, ⟨tp, t2, s _ _ (ne_of t3 hp (fun z => nomatch z)) t3⟩, t4⟩
theorem none_bad {CN CM CS : Addr} : ∀ {l : List (V × Str)}, (∀ q ∈ l, okF q.2 q.1 = true) → badL CN CM CS l = none
  | [], _ => rfl
  | (v, f) :: r, h => by
    unfold badL
    rw [if_pos (h (v, f) List.mem_cons_self)]
    exact none_bad fun q hq => h q (List.mem_cons_of_mem _ hq)
theorem flat_bad {CN CM CS : Addr} {kind : Str} {xs : List V} (h : FlatRow kind xs) : badL CN CM CS (xs.zip (formsOf kind)) = none := none_bad fun q hq => (h.2 q hq).1
theorem Flat1.gv {v : V} (h : Flat1 v) (H : Hp) : ∃ T, Gv H v T := by
  cases h with
  | nam h => exact ⟨_, .str _ (Nat.le_trans (name_len h) (by decide))⟩
  | mom h => exact ⟨_, .int _⟩
  | tru b => exact ⟨_, .bl b⟩
theorem LvAt.ext {C : Addr} {H H' : Hp} {a : Addr} {F : Str → Option (List Int)} (h : LvAt C H a F) (s : ExtN H H') : LvAt C H' a F := by
  obtain ⟨dx, d, kvs, h1, h2, h3, h4⟩ := h
  refine ⟨dx, d, kvs, s _ _ h1 ins_ne, s _ _ h2 dk_ne, h3, fun z ns e => ?_⟩
  obtain ⟨t, e1, e2⟩ := h4 z ns e
  exact ⟨t, e1, s _ _ e2 tup_ne⟩
/-- the law's own pairs in the list at c -/
def DuAt (H : Hp) (c : Addr) (ps : List (Sg × Sg)) : Prop := ∃ us : List V, H c = some (.lst us) ∧ Paired (TPair H) us ps
theorem DuAt.same {H H' : Hp} {c : Addr} {ps : List (Sg × Sg)} (h : DuAt H c ps) (s : Same H H') : DuAt H' c ps := by
  obtain ⟨us, h1, h2⟩ := h
  exact ⟨us, s _ _ h1, L2.Paired.mapP h2 fun _ _ e => TPair.same e s⟩
theorem TPair.ext {H H' : Hp} {v : V} {p : Sg × Sg} (h : TPair H v p) (s : ExtN H H') : TPair H' v p := by
  obtain ⟨t, a, b, h1, h2, h3, h4⟩ := h
  exact ⟨t, a, b, h1, s _ _ h2 tup_ne, s _ _ h3 tup_ne, s _ _ h4 tup_ne⟩
theorem TPair.off {H H' : Hp} {p0 : Addr} {xs : List V} {v : V} {p : Sg × Sg} (h : TPair H v p) (hp : H p0 = some (.lst xs)) (s : Off p0 H H') : TPair H' v p := by
  obtain ⟨t, a, b, h1, h2, h3, h4⟩ := h
  exact ⟨t, a, b, h1, s _ _ (ne_of h2 hp (fun y => nomatch y)) h2, s _ _ (ne_of h3 hp (fun y => nomatch y)) h3, s _ _ (ne_of h4 hp (fun y => nomatch y)) h4⟩
theorem DuAt.ext {H H' : Hp} {c : Addr} {ps : List (Sg × Sg)} (h : DuAt H c ps) (s : ExtN H H') : DuAt H' c ps := by
  obtain ⟨us, h1, h2⟩ := h
  exact ⟨us, s _ _ h1 lst_ne, L2.Paired.mapP h2 fun _ _ e => TPair.ext e s⟩
theorem DuAt.off {H H' : Hp} {c p l : Addr} {ps : List (Sg × Sg)} {ns : List Int} {n : Nat} {g : Int} (h : DuAt H c ps) (hp : Pen H p l ns n g) (s : Off p H H') : DuAt H' c ps := by
  obtain ⟨us, h1, h2⟩ := h
  have ncp : c ≠ p := fun e => by
    rw [e, hp.pen] at h1
    injection h1 with h1
    injection h1 with h1
    subst h1
    cases h2 with
    | cons _ r =>
      cases r with
      | cons f _ =>
        obtain ⟨_, _, _, e, _⟩ := f
        cases e
  exact ⟨us, s _ _ ncp h1, L2.Paired.mapP h2 fun _ _ e => TPair.off e hp.pen s⟩
/-- as data -/
def dSg (x : Sg) : PyData := .tuple [.str x.1, .int x.2.1, .bool x.2.2]
def dPair (p : Sg × Sg) : PyData := .tuple [dSg p.1, dSg p.2]
def dPairs (ps : List (Sg × Sg)) : PyData := .list (ps.map dPair)
theorem dp_sg {K : PySem.W.Frag} {H : Hp} {a : Addr} {x : Sg} (h : H a = some (tupS x)) : Dp K H (.ref a) (dSg x) := .tup (SqT.of h) (.cons (.str _) (.cons (.int _) (.cons (.bl _) .nil)))
theorem dp_pairs {K : PySem.W.Frag} {H : Hp} : ∀ {us : List V} {ps : List (Sg × Sg)}, Paired (TPair H) us ps → DpAll K H us (ps.map dPair)
  | _, _, .nil => .nil
  | _, _, .cons f r => by
    obtain ⟨t, a, b, rfl, h2, h3, h4⟩ := f
    exact .cons (.tup (SqT.of h2) (.cons (dp_sg h3) (.cons (dp_sg h4) .nil))) (dp_pairs r)
theorem DuAt.dp {K : PySem.W.Frag} {H : Hp} {c : Addr} {ps : List (Sg × Sg)} (h : DuAt H c ps) : Dp K H (.ref c) (dPairs ps) := by
  obtain ⟨us, h1, h2⟩ := h
  exact .lst (SqL.of h1) (dp_pairs h2)
def SgOk (x : Sg) : Prop := isName x.1 = true ∧ Mom x.2.1
def PsOk (ps : List (Sg × Sg)) : Prop := ps.length ≤ 20 ∧ ∀ p ∈ ps, SgOk p.1 ∧ SgOk p.2
theorem sg_ok {x : Sg} (h : SgOk x) : OkD 6009 2 (dSg x) := by
  refine OkD.mono (OkD.tuple (n := 2000) (m := 0) (ds := [.str x.1, .int x.2.1, .bool x.2.2]) ?_) (by show 2000 * 3 + 2 * 3 + 3 ≤ 6009; decide) (by decide)
  simp only [List.forall_mem_cons]
  refine ⟨OkD.str (name_small h.1) (Nat.le_trans (name_len h.1) (by decide)), OkD.int ?_, OkD.bool _, fun _ h => nomatch h⟩
  have := h.2.1
  have := h.2.2
  omega
theorem pair_okD {p : Sg × Sg} (h : SgOk p.1 ∧ SgOk p.2) : OkD 12025 4 (dPair p) := by
  refine OkD.mono (OkD.tuple (n := 6009) (m := 2) (ds := [dSg p.1, dSg p.2]) ?_) (by show 6009 * 2 + 2 * 2 + 3 ≤ 12025; decide) (by decide)
  simp only [List.forall_mem_cons]
  exact ⟨sg_ok h.1, sg_ok h.2, fun _ h => nomatch h⟩
theorem PsOk.repr {ps : List (Sg × Sg)} (h : PsOk ps) : (dPairs ps).showable = true ∧ (dPairs ps).depth ≤ 60 ∧ (dPairs ps).shown.length ≤ sizeLine := by
  refine (OkD.list (n := 12025) (m := 4) (ds := ps.map dPair) fun d hd => ?_).repr (by decide) ?_
  · obtain ⟨p, hp, rfl⟩ := List.mem_map.mp hd
    exact pair_okD (h.2 p hp)
  · have := h.1
    rw [List.length_map]
    omega
theorem ps_ok {L : Str → List Int} {kind : Str} {xs : List V} (hk : kind ∈ kinds) (hf : FlatRow kind xs) (hL : ∀ z, (L z).length ≤ 20 ∧ ∀ m ∈ L z, Mom m) : PsOk (pairsOf L kind xs) := by
  have nil : PsOk [] := ⟨by decide, fun _ h => nomatch h⟩
  have one : ∀ {a b : Sg}, SgOk a → SgOk b → PsOk [(a, b)] := fun ha hb => ⟨by show 1 ≤ 20; decide, fun p hp => by rw [List.mem_singleton.mp hp]; exact ⟨ha, hb⟩⟩
  by_cases e1 : kind = "begun"
  · subst e1
    obtain ⟨z, m, rfl, hz, hm⟩ := sh2 hf (by decide +kernel)
    exact nil
  by_cases e2 : kind = "trusted"
  · subst e2
    obtain ⟨z, rfl, hz⟩ := sh1 hf (by decide +kernel)
    refine ⟨?_, fun p hp => ?_⟩
    · show ((L z).map _).length ≤ 20
      rw [List.length_map]
      exact (hL z).1
    · obtain ⟨m, hm, rfl⟩ := List.mem_map.mp (show p ∈ (L z).map _ from hp)
      exact ⟨⟨hz, (hL z).2 m hm⟩, ⟨hz, (hL z).2 m hm⟩⟩
  by_cases e3 : kind = "found"
  · subst e3
    obtain ⟨z, m, b, rfl, hz, hm⟩ := shT hf (by decide +kernel)
    exact one ⟨hz, hm⟩ ⟨hz, hm⟩
  by_cases e4 : kind = "setby"
  · subst e4
    obtain ⟨z, m, y, rfl, hz, hm, hy⟩ := sh3 hf (.inl (by decide +kernel))
    rw [pairs3, if_pos rfl]
    exact one ⟨hz, hm⟩ ⟨hy, hm⟩
  by_cases e5 : kind = "passed"
  · subst e5
    obtain ⟨z, m, y, rfl, hz, hm, hy⟩ := sh3 hf (.inr (by decide +kernel))
    rw [pairs3, if_neg e4]
    exact one ⟨hy, hm⟩ ⟨hz, hm⟩
  by_cases e6 : kind = "failed"
  · subst e6
    obtain ⟨z, m, y, rfl, hz, hm, hy⟩ := sh3 hf (.inr (by decide +kernel))
    rw [pairs3, if_neg e4]
    exact one ⟨hy, hm⟩ ⟨hz, hm⟩
  have h4 := kinds_4 kind hk e1 e2 e3 e4 e5 e6
  obtain ⟨z, m, y, k, rfl, hz, hm, hy, hk2⟩ := sh4 hf (forms_4 kind h4)
  rw [pairs_4 h4]
  refine ⟨?_, fun p hp => ?_⟩
  · rw [List.length_map]
    exact Nat.le_trans (bs_len kind h4) (by decide)
  · obtain ⟨b, hb, rfl⟩ := List.mem_map.mp hp
    exact ⟨⟨hz, hm⟩, ⟨hy, hk2⟩⟩
theorem lasts_ok {H : Hp} {d : Addr} {m : Nat} {F : Str → Option (List Int)} (h : StAt H d m F) (z : Str) : (lastsF (lvF F) z).length ≤ 20 ∧ ∀ m ∈ lastsF (lvF F) z, Mom m := by
  obtain ⟨kvs, ks, k1, k2, k3, k4, k5, k6, k7⟩ := h
  cases e : F z with
  | none =>
    have : lastsF (lvF F) z = [] := by unfold lastsF lvF; rw [e]; rfl
    rw [this]
    exact ⟨by decide, fun _ h => nomatch h⟩
  | some ns =>
    obtain ⟨_, _, _, h8, hb⟩ := k7 z ns e
    have : lastsF (lvF F) z = lastsOf (0 :: srt ns) := by unfold lastsF lvF; rw [e]; rfl
    rw [this]
    refine ⟨?_, lasts_mom fun n hn => hb n (srt_mem.mp hn)⟩
    have h1 := lastsOf_len (0 :: srt ns) (fun e => nomatch e)
    have h2 := srt_len ns
    have h3 : (0 :: srt ns).length = (srt ns).length + 1 := rfl
    omega
theorem fok_of {H : Hp} {d : Addr} {m : Nat} {F : Str → Option (List Int)} (h : StAt H d m F) : FOk (lvF F) := by
  obtain ⟨kvs, ks, k1, k2, k3, k4, k5, k6, k7⟩ := h
  intro z ns e
  have e : (F z).map (fun l => 0 :: srt l) = some ns := e
  cases eF : F z with
  | none => rw [eF] at e; cases e
  | some l =>
    rw [eF] at e
    cases e
    obtain ⟨_, _, _, h8, hb⟩ := k7 z l eF
    have h2 := srt_len l
    exact ⟨srt l, rfl, by omega, fun n hn => hb n (srt_mem.mp hn), srt_asc l⟩
theorem lv_some {F : Str → Option (List Int)} {z : Str} : (lvF F z).isSome = (F z).isSome := by
  show ((F z).map _).isSome = _
  cases F z <;> rfl
/-- the first that is gone -/
theorem sub_head {α : Type} {gs ns : List α} (h : gs.Sublist ns) : ∀ {i : Nat} {z : α}, ns.Nodup → ns[i]? = some z → z ∈ gs → (∀ y ∈ ns.take i, y ∉ gs) → gs.head? = some z := by
  induction h with
  | slnil => intro i z _ e; simp at e
  | @cons gs ns a hs ih =>
    intro i z nd e hz ha
    rw [List.nodup_cons] at nd
    cases i with
    | zero =>
      obtain rfl : a = z := by simpa using e
      exact absurd (hs.subset hz) nd.1
    | succ i => exact ih nd.2 (by simpa using e) hz fun y hy => ha y (List.mem_cons_of_mem _ hy)
  | @cons_cons gs ns a hs ih =>
    intro i z nd e hz ha
    cases i with
    | zero =>
      obtain rfl : a = z := by simpa using e
      rfl
    | succ i => exact absurd List.mem_cons_self (ha a (by simp))
end K13

/-! a list of anything == [], != [] -/
namespace So
open PySem PySem.Spec PyProof.Rows L2
section
variable {X : Cx}
theorem isL {hp : Heap} {a : Addr} {its : Array Value} (h : PlainL hp a its) : hp.IsList a its := by
  obtain ⟨o, n, e, c, d, dt⟩ := h
  exact ⟨o, e, c, n, dt⟩
def rNil (K : PySem.W.Frag) (neg : Bool) : R2 := fun x y H Q => ∃ (a b : Addr) (xs : List V), x = .ref a ∧ y = .ref b ∧ SqL K H a xs ∧ SqL K H b [] ∧ Q (.bl (if neg then !xs.isEmpty else xs.isEmpty)) H
theorem op_neNil (hu : X.A.units < cLine) : OpR X (compareOp .NotEq) (rNil X.K true) := by
  intro pins s σ H x y v u Q I rx ry h
  obtain ⟨a, b, xs, rfl, rfl, ha, hb, q⟩ := h
  cases rx
  cases ry
  obtain ⟨its, rv, hl, hz⟩ := I.list ha
  obtain ⟨its2, rv2, hl2, hz2⟩ := I.list hb
  cases rv2
  cases xs with
  | nil =>
    cases rv
    exact PySem.SeqAt.RcNeAt.lists (e := fun _ => true) (isL hl) (isL hl2) rfl hu (fun j h1 _ => absurd h1 (Nat.not_lt_zero j)) X.prog X.w _ _ ⟨.bl false, H, I, rfl, q⟩
  | cons x r =>
    cases rv with
    | cons r1 r2 => exact PySem.SeqAt.RcNeAt.lists_lengths (isL hl) (isL hl2) (by simp) hu X.prog X.w _ _ ⟨.bl true, H, I, rfl, q⟩
theorem op_eqNil (hu : X.A.units < cLine) : OpR X (compareOp .Eq) (rNil X.K false) := by
  intro pins s σ H x y v u Q I rx ry h
  obtain ⟨a, b, xs, rfl, rfl, ha, hb, q⟩ := h
  cases rx
  cases ry
  obtain ⟨its, rv, hl, hz⟩ := I.list ha
  obtain ⟨its2, rv2, hl2, hz2⟩ := I.list hb
  cases rv2
  cases xs with
  | nil =>
    cases rv
    exact PySem.SeqAt.RcAt.lists (e := fun _ => true) (isL hl) (isL hl2) rfl hu (fun j h1 _ => absurd h1 (Nat.not_lt_zero j)) X.prog X.w _ _ ⟨.bl true, H, I, rfl, q⟩
  | cons x r =>
    cases rv with
    | cons r1 r2 => exact PySem.SeqAt.RcAt.lists_lengths (isL hl) (isL hl2) (by simp) hu X.prog X.w _ _ ⟨.bl false, H, I, rfl, q⟩
end
end So

namespace K13
open PySem PySem.Spec PyProof.Rows L2 So LamX
abbrev sLaw : Stmt := topS 67
abbrev lawN : List Str := ["_law_script", "_law_pen_here", "_law_kind", "_law_crew_here", "_law_row", "_law_starts_here", "_law_homes", "_law_due", "_law_wider", "_law_words", "_law_gone", "_law_heard_here", "_law_fewer", "_law_made_here", "_law_word"]
theorem scLaw : FnScope lawN ["_law_script"] (defScope sLaw) := ⟨rfl, rfl, rfl, by decide +kernel, rfl, by decide +kernel, by decide +kernel⟩
def kOne {α : Type} : List α → List α → List α
  | [u], [w] => [u, w]
  | _, _ => []
theorem strs_mem : ∀ {xs : List V} {k : Str}, k ∈ strsOf xs → V.str k ∈ xs
  | v :: r, k, h => by
    cases v with
    | str z =>
      rcases List.mem_cons.mp h with e | e
      · rw [e]; exact List.mem_cons_self
      · exact List.mem_cons_of_mem _ (strs_mem e)
    | _ => exact List.mem_cons_of_mem _ (strs_mem h)
theorem valV_mem {k : Key} : ∀ {kvs : List (Key × V)}, k ∈ kvs.map (·.1) → ∃ v, valV kvs k = some v ∧ (k, v) ∈ kvs
  | [], h => by simp at h
  | x :: r, h => by
    by_cases e : x.1 = k
    · exact ⟨x.2, valV_pos e, by rw [← e]; exact List.mem_cons_self⟩
    · rw [List.map_cons] at h
      obtain ⟨v, h1, h2⟩ := valV_mem (kvs := r) ((List.mem_cons.mp h).resolve_left (fun z => e z.symm))
      exact ⟨v, (valV_neg e).trans h1, List.mem_cons_of_mem _ h2⟩
/-- a dict made anew -/
theorem stAt_of {H : Hp} {b : Addr} {m : Nat} {F : Str → Option (List Int)} {kvs : List (Key × V)} {ks : List Str} (h1 : H b = some (.dK kvs)) (h2 : kvs.map (·.1) = ks.map Sum.inr) (h3 : ks.Nodup) (h4 : ks.length ≤ m) (h5 : ∀ z, z ∈ ks ↔ (F z).isSome = true) (h6 : ∀ z ∈ ks, isName z = true)
    (h7 : ∀ kv ∈ kvs, ∀ z, kv.1 = .inr z → ∀ ns, F z = some ns → ∃ l, kv.2 = .ref l ∧ H l = some (.lst (ns.map V.int)) ∧ ns.length ≤ 8 ∧ ∀ n ∈ ns, gBeg (.int n) = true) : StAt H b m F := by
  refine ⟨kvs, ks, h1, h2, h3, h4, h5, h6, fun z ns e => ?_⟩
  have hz : z ∈ ks := (h5 z).mpr (by rw [e]; rfl)
  obtain ⟨v, e1, e2⟩ := valV_mem (k := .inr z) (kvs := kvs) (by rw [h2]; exact List.mem_map.mpr ⟨z, hz, rfl⟩)
  obtain ⟨l, f1, f2, f3, f4⟩ := h7 _ e2 z rfl ns e
  have f1 : v = .ref l := f1
  rw [f1] at e1
  exact ⟨l, e1, f2, f3, f4⟩
theorem nodup_inr {ks : List Str} {kvs : List (Key × V)} (h : kvs.map (·.1) = ks.map Sum.inr) (nd : ks.Nodup) : (kvs.map (·.1)).Nodup := by
  rw [h]
  exact List.Pairwise.map _ (fun _ _ h e => h (Sum.inr.inj e)) nd
section
variable {P : Program} {w : World} {K : PySem.W.Frag} {mg : Str → Option Value} {base : Heap}
/-- what the law needs of Lives -/
structure LivM (P : Program) (w : World) (K : PySem.W.Frag) (mg : Str → Option Value) (base : Heap) (CV fV : Addr) (fdV : FuncData) : Prop where
  T : Lvs K mg CV
  M : Mk K CV fV
  b : Binds K fdV ["self", "begun"] []
  G : FnOk P w K mg base CX0 5 fV fdV ["self", "begun"] (spLInit K CV)
/-- behind Lives(d) -/
theorem linitS {CV x dx d : Addr} {m : Nat} {F : Str → Option (List Int)} {H1 : Hp} {Q : VK} {E : XK} (hx : H1 x = none) (hd : H1 dx = none) (hS : StAt H1 d m F) (hm : m < 64) (q : ∀ H' : Hp, Same H1 H' → LvAt CV H' x (lvF F) → Q .non H') :
    spLInit K CV [.ref x, .ref d] (upd (upd H1 dx (.own x)) x (.ins CV dx [])) Q E := by
  have s0 : Same H1 (upd (upd H1 dx (.own x)) x (.ins CV dx [])) := fun c o e => by
    rw [upd_ne (ne_of_none e hx), upd_ne (ne_of_none e hd)]
    exact e
  exact ⟨x, dx, d, F, rfl, upd_same, (hS.same s0).bg hm, fun H' o h => q H' (fun c u g => o c u (ne_of_none g hx) (s0 c u g)) h⟩
theorem noT {p : Prop} {xs : List V} {F : Str → Option (List Int)} {ns : List Str} {i : Nat} {z : Str} (hT : ∀ z ∈ strsOf xs, (F z).isSome = true) (T : Tls ns xs) (hi : ns[i]? = some z) (e : F z = none) : p := by
  have := hT z ((T.2.2 z).mp (List.mem_of_getElem? hi))
  rw [e] at this
  cases this
def spLaw (K : PySem.W.Frag) (T : List (Addr × Str)) : Sp := fun vs H Q _ => ∃ (a : Addr) (ns : List Int), vs = [.ref a] ∧ SqL K H a (ns.map V.int) ∧ Tabs T H ∧ ∀ H', Q (.bl true) H'
theorem ok_law {T : List (Addr × Str)} {Cf : Str → Addr} {CR CN CM CS CT CT' CY CV f c1 P1 fPen fKi fDr fC fSt fM fT fQ fN fD fP fV fH : Addr} {fd fdPen fdKi fdDr fdC fdSt fdM fdT fdQ fdN fdD fdP fdV fdH : FuncData} (F : Fun K "law" "law" sLaw f fd) (hcode : fd.code = .ref c1) (TB : TabB base mg c1 P1)
    (hT1 : ∀ n f' c', (P1, (envOfC "law" (defScope sLaw) n f' c').qual ++ "<lambda>") ∈ T) (hT2 : ∀ n f' c', ∀ q ∈ T, q.1 = P1 → q.2 = (envOfC "law" (defScope sLaw) n f' c').qual ++ "<lambda>")
    (R : RowsC K mg Cf CR) (LV : LivM P w K mg base CV fV fdV) (RH : HrL K mg CT CT' CN CM) (mp : mg "repr" = none) (md : mg "dict" = none) (msrt : mg "sorted" = none) (mset : mg "set" = none) (ml : mg "len" = none)
    (FPen : Fun K "_law_pen" "_law_pen" sPen fPen fdPen) (bPen : Binds K fdPen ["_law_script"] []) (gPen : mg "_law_pen" = some (.ref fPen)) (GPen : FnOk P w K mg base CX0 1 fPen fdPen ["_law_script"] (spPen K))
    (FK : Fun K "_law_kinds" "_law_kinds" sKinds fKi fdKi) (bK : Binds K fdKi [] []) (gK : mg "_law_kinds" = some (.ref fKi)) (GK : FnOk P w K mg base CX0 1 fKi fdKi [] spKinds)
    (FDr : Fun K "_law_drawn" "_law_drawn" sDrawn fDr fdDr) (bDr : Binds K fdDr ["_law_pen_here", "_law_crew_here", "_law_kinds_here"] []) (gDr : mg "_law_drawn" = some (.ref fDr)) (GDr : FnOk P w K mg base CX0 4 fDr fdDr ["_law_pen_here", "_law_crew_here", "_law_kinds_here"] spDrawn)
    (FC : Fun K "_law_crew" "_law_crew" sCrew fC fdC) (bC : Binds K fdC ["_law_pen_here"] []) (gC : mg "_law_crew" = some (.ref fC)) (GC : FnOk P w K mg base CX0 3 fC fdC ["_law_pen_here"] spCrew)
    (FSt : Fun K "_law_starts" "_law_starts" sStarts fSt fdSt) (bSt : Binds K fdSt ["_law_pen_here", "_law_crew_here"] []) (gSt : mg "_law_starts" = some (.ref fSt)) (GSt : FnOk P w K mg base CX0 3 fSt fdSt ["_law_pen_here", "_law_crew_here"] spStarts)
    (FM : Fun K "_law_made" "_law_made" sMade fM fdM) (bM : Binds K fdM ["_law_row"] []) (gM : mg "_law_made" = some (.ref fM)) (GM : FnOk P w K mg base (L2.CX P w) 8 fM fdM ["_law_row"] (spMade CN CM CS Cf))
    (FT : Fun K "_law_told" "_law_told" sToldL fT fdT) (bT : Binds K fdT ["_law_pairs_here"] []) (gT : mg "_law_told" = some (.ref fT)) (GT : FnOk P w K mg base CX0 2 fT fdT ["_law_pairs_here"] (spToldL CY))
    (FQ : Fun K "_law_pairs" "_law_pairs" sPairsL fQ fdQ) (bQ : Binds K fdQ ["_law_row", "_law_begun"] []) (gQ : mg "_law_pairs" = some (.ref fQ)) (GQ : FnOk P w K mg base CX0 4 fQ fdQ ["_law_row", "_law_begun"] spPairsL)
    (FN : Fun K "_law_named" "_law_named" sNamed fN fdN) (bN : Binds K fdN ["_law_row"] []) (gN : mg "_law_named" = some (.ref fN)) (GN : FnOk P w K mg base CX0 1 fN fdN ["_law_row"] (spNamed isS))
    (FD : Fun K "_law_draw" "_law_draw" sDraw fD fdD) (bD : Binds K fdD ["_law_pen_here", "_law_many"] []) (gD : mg "_law_draw" = some (.ref fD)) (GD : FnOk P w K mg base CX0 1 fD fdD ["_law_pen_here", "_law_many"] spDraw)
    (hP : ∀ kind ∈ kinds, Meth K (Cf kind) "pairs" fP) (bP : Binds K fdP ["self", "lives"] []) (kP : KBinds K fdP ["self", "lives"] ["lives"] kOne kOne) (GP : FnOk P w K mg base (L2.CX P w) 10 fP fdP ["self", "lives"] (spPairsR Cf CY CV CT'))
    (FH : Fun K "_law_heard" "_law_heard" sHeard fH fdH) (bH0 : Binds K fdH ["_law_ask"] []) (gH : mg "_law_heard" = some (.ref fH)) :
    FnG P w K mg base CX0 13 f fd ["_law_script"] (spLaw K T) := by
  obtain ⟨ocH, odH, kVH, docH, pmH, anH, cdvH, ctH, oslH, efd, lkH, hcH⟩ := FH.ex
  subst efd
  have bH := bH0
  refine fnG_ofC F hcode scLaw (fun vs H Q E h => ?_) (fun A outer s H vs Q E hg hr h => ?_)
  · obtain ⟨a, ns, rfl, _⟩ := h
    rfl
  · obtain ⟨a0, sns, rfl, hS, hT, q⟩ := h
    have hr1 : Room 1 _ := hr.mono (by decide)
    have hr2 : Room 2 _ := hr.mono (by decide)
    have hr3 : Room 3 _ := hr.mono (by decide)
    have hr4 : Room 4 _ := hr.mono (by decide)
    have hr6 : Room 6 _ := hr.mono (by decide)
    have hr8 : Room 8 _ := hr.mono (by decide)
    have hr10 : Room 10 _ := hr.mono (by decide)
    refine ⟨_, (pss_cons (ps_set (i := 1) scLaw.nd rfl (.inr rfl) (pe_call GPen hr1 (by rfl) gPen FPen.kp bPen .nil pass0 (pa_cons (pv 0) pa_nil)))
      (pss_cons (ps_for PassesOwn.never rfl (pi_list (pe_op op_cat (pe_call0 GK hr1 (by rfl) gK FK.kp bK .nil pass0) (pe_call0 GK hr1 (by rfl) gK FK.kp bK .nil pass0))) (pg_name (i := 2) scLaw.nd rfl (Or.inl rfl))
        (pss_cons (ps_set (i := 3) scLaw.nd rfl (.inl rfl) (pe_call GC hr3 (by rfl) gC FC.kp bC .nil pass0 (pa_cons (pv 1) pa_nil)))
        (pss_cons (ps_asg (pe_tup (pa_cons (pe_call GDr hr4 (by rfl) gDr FDr.kp bDr .nil pass0 (pa_cons (pv 1) (pa_cons (pv 3) (pa_cons (pe_lst (pa_cons (pv 2) pa_nil)) pa_nil)))) (pa_cons (pe_call GSt hr3 (by rfl) gSt FSt.kp bSt .nil pass0 (pa_cons (pv 1) (pa_cons (pv 3) pa_nil))) pa_nil))) (pg_tup rfl (pgs_cons (pg_name (i := 4) scLaw.nd rfl (Or.inl rfl)) (pgs_cons (pg_name (i := 5) scLaw.nd rfl (Or.inr rfl)) pgs_nil))))
        (pss_cons (ps_asg (pe_tup (pa_cons (pe_call GM hr8 (by rfl) gM FM.kp bM .nil passNo (pa_cons (pv 4) pa_nil)) (pa_cons (pe_make LV.M LV.G hr6 (by rfl) LV.T.mgC LV.b .nil pass0 (pa_cons (pv 5) pa_nil)) pa_nil))) (pg_tup rfl (pgs_cons (pg_name (i := 13) scLaw.nd rfl (Or.inr rfl)) (pgs_cons (pg_name (i := 6) scLaw.nd rfl (Or.inl rfl)) pgs_nil))))
        (pss_cons (ps_set (i := 7) scLaw.nd rfl (.inl rfl) (pe_call GQ hr4 (by rfl) gQ FQ.kp bQ .nil pass0 (pa_cons (pv 4) (pa_cons (pv 5) pa_nil))))
        (pss_cons (ps_if (pt_cmpR op_ne (pe_callB (call_reprD hg hr.units) (by rfl) mp (by decide +kernel) (pa_cons (pe_call GT hr2 (by rfl) gT FT.kp bT .nil pass0 (pa_cons (pe_ex (p := fun kind => kind ∈ kinds) fun kind hk => pe_methK (pv 13) (R.c kind hk).cl (hP kind hk) GP hr10 kP passNo (pk_cons (pv 6) pk_nil)) pa_nil)) pa_nil)) (pe_callB (call_reprD hg hr.units) (by rfl) mp (by decide +kernel) (pa_cons (pv 7) pa_nil)) (nomark _)) (pss_one (ps_ret pe_bl)) pss_nil)
        (pss_cons (ps_set (i := 8) scLaw.nd rfl (.inl rfl) (pe_cut (pe_callTy (call_dictP rfl) (by rfl) md (by decide +kernel) (pa_cons (pe_lock (pe_lc (own := [("_law_word", 14)]) (g := gName 14) (tt := tYes) rfl scLaw.nd (pi_keys (pv 5)) (blkOk_by (N := lawN) (sc := defScope sLaw) (by decide +kernel)) (fun _ _ _ _ _ => pg_name (i := 14) scLaw.nd rfl (Or.inl rfl)) (fun _ _ _ _ _ => pts_nil) (fun _ _ _ _ _ => pe_tup (pa_cons (pv 14) (pa_cons (pe_op op_cat (pe_dget (hu_of hr) (pv 5) (pv 14) (fun _ _ => rfl)) (pe_lst (pa_cons pe_int pa_nil))) pa_nil))))) pa_nil))))
        (pss_cons (ps_if (pt_cmpR op_ne (pe_callB (call_reprD hg hr.units) (by rfl) mp (by decide +kernel) (pa_cons (pe_call GT hr2 (by rfl) gT FT.kp bT .nil pass0 (pa_cons (pe_ex (p := fun kind => kind ∈ kinds) fun kind hk => pe_meth (pv 13) (R.c kind hk).cl (hP kind hk) GP hr10 bP .nil passNo (pa_cons (pe_make LV.M LV.G hr6 (by rfl) LV.T.mgC LV.b .nil pass0 (pa_cons (pv 8) pa_nil)) pa_nil)) pa_nil)) pa_nil)) (pe_callB (call_reprD hg hr.units) (by rfl) mp (by decide +kernel) (pa_cons (pe_call GQ hr4 (by rfl) gQ FQ.kp bQ .nil pass0 (pa_cons (pv 4) (pa_cons (pv 8) pa_nil))) pa_nil)) (nomark _)) (pss_one (ps_ret pe_bl)) pss_nil)
        (pss_cons (ps_if (pt_cmpR op_ne (pe_callB (call_reprD hg hr.units) (by rfl) mp (by decide +kernel) (pa_cons (pe_call GT hr2 (by rfl) gT FT.kp bT .nil pass0 (pa_cons (pe_ex (p := fun kind => kind ∈ kinds) fun kind hk => pe_meth (pv 13) (R.c kind hk).cl (hP kind hk) GP hr10 bP .nil passNo (pa_cons (pv 6) pa_nil)) pa_nil)) pa_nil)) (pe_callB (call_reprD hg hr.units) (by rfl) mp (by decide +kernel) (pa_cons (pv 7) pa_nil)) (nomark _)) (pss_one (ps_ret pe_bl)) pss_nil)
        (pss_cons (ps_cut (ps_set (i := 9) scLaw.nd rfl (.inl rfl) (pe_callB (cr_sortSS rfl) (by rfl) msrt (by decide +kernel) (pa_cons (pe_callTy (cr_setS rfl) (by rfl) mset (by decide +kernel) (pa_cons (pe_call GN hr1 (by rfl) gN FN.kp bN .nil pass0 (pa_cons (pv 4) pa_nil)) pa_nil)) pa_nil))))
        (pss_cons (ps_set (i := 10) scLaw.nd rfl (.inr rfl) (pe_lc (own := [("_law_word", 14)]) (g := gName 14) rfl scLaw.nd (pi_list (pv 9)) (blkOk_by (N := lawN) (sc := defScope sLaw) (by decide +kernel)) (fun _ _ _ _ _ => pg_name (i := 14) scLaw.nd rfl (Or.inl rfl)) (fun _ _ _ _ _ => pts_one (pt_cmpR op_eq (pe_call GD hr1 (by rfl) gD FD.kp bD .nil pass0 (pa_cons (pv 1) (pa_cons pe_int pa_nil))) pe_int (nomark _))) (fun _ _ _ _ _ => pv 14)))
        (pss_cons (ps_set (i := 12) scLaw.nd rfl (.inr rfl) (pe_make LV.M LV.G hr6 (by rfl) LV.T.mgC LV.b .nil pass0 (pa_cons (pe_cut (pe_callTy (call_dictP rfl) (by rfl) md (by decide +kernel) (pa_cons (pe_lock (pe_lc (own := [("_law_word", 14)]) (g := gName 14) rfl scLaw.nd (pi_keys (pv 5)) (blkOk_by (N := lawN) (sc := defScope sLaw) (by decide +kernel)) (fun _ _ _ _ _ => pg_name (i := 14) scLaw.nd rfl (Or.inl rfl)) (fun _ _ _ _ _ => pts_one (pt_cmpR (op_notInK (K := K) rfl) (pv 14) (pv 10) (by rfl))) (fun _ _ _ _ _ => pe_tup (pa_cons (pv 14) (pa_cons (pe_dget (hu_of hr) (pv 5) (pv 14) (fun _ _ => rfl)) pa_nil))))) pa_nil))) pa_nil)))
        (pss_cons (ps_cut (ps_set (i := 11) scLaw.nd rfl (.inl rfl) (pe_lamcall (T := T) (TT := TTL CT' CN CM) (t := _) (k := 10) (by rfl) gH FH.kp lkH hcH bH scHeard rfl (Or.inl rfl) (heard_gives RH) TB rfl (hT1 _ _ _) (hT2 _ _ _) hr
            (lamS_by (sc := defScope sLaw) (by decide +kernel)) rfl (fun _ _ _ _ _ => rfl) (fun A outer s H E f c' hr' => pe_callB (lenK (K := K) rfl) (by rfl) ml PySem.boot_len (pa_cons (pe_ex (p := fun kind => kind ∈ kinds) fun kind hk => pe_meth (pv 13) (R.c kind hk).cl (hP kind hk) GP hr' bP .nil (passes_call (takes_of rfl rfl rfl rfl) (fun _ _ _ _ h => h)) (pa_cons (pv 12) pa_nil)) pa_nil)))))
        (pss_one (ps_if (pt_cmpR op_ne (pe_callB (call_reprD hg hr.units) (by rfl) mp (by decide +kernel) (pa_cons (pv 11) pa_nil)) (pe_callB (call_reprD hg hr.units) (by rfl) mp (by decide +kernel) (pa_cons (pe_ifExp (pt_cmpR (op_neNil hr.units0) (pv 10) (pe_lst pa_nil) (nomark _)) (pe_tup (pa_cons pe_str (pa_cons (pe_ix ix_list (pv 10) pe_int (fun _ _ => rfl)) pa_nil))) (pe_tup (pa_cons pe_str (pa_cons (pe_callB call_len_seq (by rfl) ml PySem.boot_len (pa_cons (pv 7) pa_nil)) pa_nil)))) pa_nil)) (nomark _)) (pss_one (ps_ret pe_bl)) pss_nil)))))))))))))))
      (pss_one (ps_ret pe_bl)))), ?_⟩
    have hsz := sizeLine_eq
    refine ⟨_, rfl, a0, sns, rfl, hS, fun H1 p l cc s1 pen1 => ?_⟩
    have t1 := tabs_same hT s1
    refine ⟨rfl, fun H5 k1 s5 nk1 hk1 => ⟨rfl, fun H6 k2 s6 nk2 hk2 => ⟨k1, k2, _, _, rfl, rfl, s6 _ _ hk1, hk2, by show 20 ≤ sizeLine; decide, fun kl hkl => ?_⟩⟩⟩
    have s46 := s5.trans s6
    have s7 := s46.trans (same_upd0 (o := .lst (kinds.map V.str ++ kinds.map V.str)) hkl)
    have hkl7 : (L2.upd H6 kl (.lst (kinds.map V.str ++ kinds.map V.str))) kl = some (.lst ((kinds ++ kinds).map V.str)) := by rw [upd_same, List.map_append]
    have pen7 := pen1.same s7
    have nkp := (pen1.same s46).ne hkl
    have t7 := tabs_same t1 s7
    revert hkl7 pen7 t7
    generalize L2.upd H6 kl (.lst (kinds.map V.str ++ kinds.map V.str)) = H7
    intro hkl7 pen7 t7
    clear s7 s46 s5 s6 hk1 hk2 hkl pen1 t1 s1
    refine ⟨kl, rfl, ⟨_, SqL.of hkl7⟩, ?_⟩
    refine for_it walk_list (fun k σ G => ∃ (x2 x3 x4 x5 x6 x7 x8 x9 x10 x11 x12 x13 : Option V) (n' : Nat) (g' : Int), σ = [some (.ref a0), some (.ref p), x2, x3, x4, x5, x6, x7, x8, x9, x10, x11, x12, x13, none] ∧ Pen G p l cc n' g' ∧ n' ≤ 60 * k ∧ Tabs T G ∧ G kl = some (.lst ((kinds ++ kinds).map V.str)))
      ⟨none, none, none, none, none, none, none, none, none, none, none, none, 0, 0, rfl, pen7, Nat.le_refl _, t7, hkl7⟩ (fun _ _ _ _ ⟨_, _, _, _, _, _, _, _, _, _, _, _, _, _, _, _, _, _, o⟩ => SqL.of o) ?_ ?_
    case refine_2 =>
      rintro σ G ⟨x2, x3, x4, x5, x6, x7, x8, x9, x10, x11, x12, x13, n4, g4, rfl, _⟩
      exact q G
    rintro k x σ G G' hk2 ⟨x2, x3, x4, x5, x6, x7, x8, x9, x10, x11, x12, x13, n4, g4, rfl, pen4, hn4, t4, hkl4⟩ ⟨rfl, hxk⟩
    clear pen7 t7 hkl7
    obtain ⟨kind, hk, rfl⟩ : ∃ kind ∈ kinds, x = .str kind := by
      obtain ⟨z, hz, e⟩ := List.mem_map.mp (List.mem_of_getElem? hxk)
      exact ⟨z, by rcases List.mem_append.mp hz with h | h <;> exact h, e.symm⟩
    have hk20 : k < 20 := hk2
    -- crew, row, starts
    refine ⟨_, rfl, p, l, cc, n4, g4, rfl, pen4, by omega, fun zs cr n5 g5 G5 c1' c2 c3 hn5 off5 pen5 hcr ncp => ?_⟩
    refine ⟨_, rfl, _, rfl, _, rfl, by show 1 ≤ sizeLine; decide, fun kk hkk => ?_⟩
    have s6 := same_upd0 (o := .lst [V.str kind]) hkk
    refine ⟨p, l, cr, kk, cc, n5, g5, kind, zs, rfl, pen5.same s6, by omega, hk, upd_same, pen5.ne hkk, s6 _ _ hcr, ncp, c1', by omega, c3, fun xs tr n6 g6 G6 hf hsub hn6 off6 pen6 htr => ?_⟩
    have hcr6 := off6 _ _ ncp (s6 _ _ hcr)
    have t6 := tabs_off (pen5.same s6).pen (tabs_same (tabs_off pen4.pen t4 off5) s6) off6
    have hkl6 := off6 _ _ nkp (s6 _ _ (off5 _ _ nkp hkl4))
    clear s6 hkk hcr off5 pen5
    refine ⟨_, rfl, _, rfl, p, l, cr, cc, n6, g6, zs, rfl, pen6, by omega, hcr6, ncp, c2, c3, fun d0 F0 n7 g7 G7 st7 hF7 hn7 off7 pen7 hF4 => ?_⟩
    have htr7 := off7 _ _ (ne_of htr pen6.pen (fun z => nomatch z)) htr
    have t7 := tabs_off pen6.pen t6 off7
    have hkl7 := off7 _ _ nkp hkl6
    have hT0 : ∀ z ∈ strsOf xs, (F0 z).isSome = true := fun z hz => hF7 z (hsub z (strs_mem hz))
    have hTL : ∀ z ∈ strsOf xs, (lvF F0 z).isSome = true := fun z hz => by rw [lv_some]; exact hT0 z hz
    have hn7' : n7 ≤ n4 + 38 := by omega
    clear hF7 hsub off6 pen6 htr hcr6 c1' c2 c3 hn5 hn6 hn7 t6 hkl6 off7 pen4 t4 hkl4
    refine ⟨by show 2 ≤ sizeLine; decide, fun tq htq => ⟨tq, _, rfl, SqT.of upd_same, rfl, _, _, rfl, _, _, rfl, rfl, ?_⟩⟩
    have s8 := same_upd0 (o := .tup [V.ref tr, .ref d0]) htq
    have st8 := st7.same s8
    have htr8 := s8 _ _ htr7
    have t8 := tabs_same t7 s8
    have hkl8 := s8 _ _ hkl7
    have pen8 := pen7.same s8
    revert st8 htr8 t8 hkl8 pen8
    generalize L2.upd G7 tq (.tup [V.ref tr, .ref d0]) = G8
    intro st8 htr8 t8 hkl8 pen8
    clear s8 htq st7 htr7 t7 hkl7 pen7
    -- made, homes
    have hfl := hf.flat
    have hl4 : xs.length ≤ 4 := by rw [hf.1]; exact forms_len kind hk
    have hgv : ∀ (G : Hp), ∀ y ∈ xs, ∃ T, Gv G y T := fun G y hy => (hfl y hy).gv G
    have hbad : badL CN CM CS (xs.zip (formsOf kind)) = none := flat_bad hf
    have hO := fok_of st8
    have okP : PsOk (pairsOf (lastsF (lvF F0)) kind xs) := ps_ok hk hf (lasts_ok st8)
    refine ⟨_, rfl, tr, kind, xs, rfl, htr8, hk, hf.1, hgv _, fun _ H9 a s9 A9 => ?_, fun C fl v e => by rw [hbad] at e; cases e⟩
    refine ⟨_, rfl, fun hv dxv nx nd ne => linitS nx nd (st8.same s9) (by decide) fun H10 s10 L10 => ⟨rfl, ?_⟩⟩
    refine ⟨by show 2 ≤ sizeLine; decide, fun tq htq => ⟨tq, _, rfl, SqT.of upd_same, rfl, _, _, rfl, _, _, rfl, rfl, ?_⟩⟩
    have s11 := same_upd0 (o := .tup [V.ref a, .ref hv]) htq
    have sA := s9.trans (s10.trans s11)
    have A11 := A9.same (s10.trans s11)
    have L11 := L10.same s11
    revert sA A11 L11
    generalize L2.upd H10 tq (.tup [V.ref a, .ref hv]) = G11
    intro sA A11 L11
    have st11 := st8.same sA
    have htr11 := sA _ _ htr8
    have t11 := tabs_same t8 sA
    have hkl11 := sA _ _ hkl8
    have pen11 := pen8.same sA
    clear s11 htq s10 L10 s9 A9 nx nd ne sA st8 htr8 t8 hkl8 pen8
    -- due
    refine ⟨_, rfl, _, rfl, tr, d0, 4, kind, xs, F0, rfl, htr11, hk, hf, st11, hT0, fun G12 du us s12 hdu hpd => ?_⟩
    have D12 : DuAt G12 du (pairsOf (lastsF (lvF F0)) kind xs) := ⟨us, hdu, hpd⟩
    have A12 := A11.same s12
    have L12 := L11.same s12
    have st12 := st11.same s12
    have htr12 := s12 _ _ htr11
    have t12 := tabs_same t11 s12
    have hkl12 := s12 _ _ hkl11
    have pen12 := pen11.same s12
    clear hdu hpd s12 A11 L11 st11 htr11 t11 hkl11 pen11
    obtain ⟨r1, r2, r3⟩ := okP.repr
    obtain ⟨dx, fs, ha12, tl⟩ := id A12
    have hlk : fs.lookup ("pairs" : Str) = none := tl.2.2.2 "pairs" (by simp [methR])
    -- the pairs, by the word lives
    refine ⟨kind, hk, _, rfl, a, dx, fs, rfl, ha12, hlk, _, rfl, a, hv, kind, xs, lvF F0, rfl, hk, hf, A12, L12, hO, fun _ H13 t us s13 ht hp => ?_, fun _ _ _ T hi e _ => noT hTL T hi e⟩
    refine ⟨t, us, _, rfl, ht, hp, okP.1, fun H14 c vs s14 hc hpv => ?_⟩
    refine ⟨_, _, rfl, DuAt.dp ⟨vs, hc, hpv⟩, r1, r2, r3, ?_⟩
    have sB := s13.trans s14
    refine ⟨_, rfl, _, _, rfl, (D12.same sB).dp, r1, r2, r3, rfl, _, rfl, ite2 (fun e => absurd e (by simp)) (fun _ => ?_)⟩
    have A14 := A12.same sB
    have L14 := L12.same sB
    have st14 := st12.same sB
    have htr14 := sB _ _ htr12
    have t14 := tabs_same t12 sB
    have hkl14 := sB _ _ hkl12
    have pen14 := pen12.same sB
    have D14 := D12.same sB
    have ha14 := sB _ _ ha12
    clear s13 ht hp s14 hc hpv sB A12 L12 st12 htr12 t12 hkl12 pen12 D12 ha12
    -- wider
    refine ⟨fun v H' => ∃ d2, v = .ref d2 ∧ Same H14 H' ∧ StAt H' d2 4 (fun z => (F0 z).map (· ++ [3])), ?_, ?_⟩
    · obtain ⟨kvs, ks, k1, k2, k3, k4, k5, k6, k7⟩ := id st14
      have hkl : kvs.length = ks.length := by
        have := congrArg List.length k2
        rw [List.length_map, List.length_map] at this
        exact this
      refine ⟨d0, .dK kvs, k1, trivial, fun od => ?_⟩
      have fz : (L2.upd H14 d0 (.frz od (.dK kvs))) d0 = some (.frz od (.dK kvs)) := upd_same
      have fo : ∀ c u, c ≠ d0 → H14 c = some u → (L2.upd H14 d0 (.frz od (.dK kvs))) c = some u := fun c u e1 e2 => (upd_ne e1).trans e2
      revert fz fo
      generalize L2.upd H14 d0 (.frz od (.dK kvs)) = HF
      intro fz fo
      refine ⟨_, rfl, d0, od, rfl, .inl ⟨kvs, fz, fun D hD => ?_⟩⟩
      have nDo : D ≠ d0 := (ne_of_none fz hD).symm
      refine lc_it (walk_keys (d := d0) (o := od) (kvs := kvs)) (fun j H' => Same HF H' ∧ ∃ (ps : List Addr) (kv2 : List (Key × V)), H' D = some (.lst (ps.map V.ref)) ∧ ps.length = j ∧ Paired (fun q kv => H' q = some (.tup [kV kv.1, kv.2])) ps kv2 ∧ kv2.map (·.1) = (ks.take j).map Sum.inr ∧
          ∀ kv ∈ kv2, ∀ z, kv.1 = .inr z → ∀ ns, F0 z = some ns → ∃ l, kv.2 = .ref l ∧ H' l = some (.lst ((ns ++ [3]).map V.int)))
        ⟨same_upd0 hD, [], [], upd_same, rfl, .nil, rfl, fun _ h => nomatch h⟩ (fun _ _ _ h => h.1 _ _ fz) ?_ ?_
      · rintro j x H1 H2 hj ⟨s1, ps, kv2, hDk, hpl, hpd, hks, hkv⟩ ⟨rfl, k0, v0, hkv0, rfl⟩
        obtain ⟨z, hz, rfl⟩ : ∃ z, ks[j]? = some z ∧ k0 = .inr z := by
          have h1 : (kvs.map (·.1))[j]? = some k0 := by rw [List.getElem?_map, hkv0]; rfl
          rw [k2, List.getElem?_map] at h1
          cases e : ks[j]? with
          | none => rw [e] at h1; cases h1
          | some z => rw [e] at h1; exact ⟨z, rfl, (Option.some.inj h1).symm⟩
        obtain ⟨ns, hns⟩ := Option.isSome_iff_exists.mp ((k5 z).mp (List.mem_of_getElem? hz))
        obtain ⟨l0, e1, e2, e3, e4⟩ := k7 z ns hns
        have e2' := s1 _ _ (fo _ _ (ne_of e2 k1 (fun z => nomatch z)) e2)
        refine ⟨rfl, _, rfl, _, rfl, _, rfl, d0, _, rfl, .inl ⟨kvs, .inr z, .inr ⟨od, s1 _ _ fz⟩, rfl, e1.symm⟩, by show 1 ≤ sizeLine; decide, fun t3 h3 => ?_⟩
        have s2 := same_upd0 (o := .lst [V.int 3]) h3
        refine ⟨l0, t3, _, _, rfl, rfl, s2 _ _ e2', upd_same, by rw [List.length_map]; show ns.length + 1 ≤ sizeLine; omega, fun l2 hl2 => ⟨by show 2 ≤ sizeLine; decide, fun tp htp => ?_⟩⟩
        have s3 := s2.trans ((same_upd0 (o := .lst (ns.map V.int ++ [V.int 3])) hl2).trans (same_upd0 (o := .tup [kV (.inr z), V.ref l2]) htp))
        have l2b := same_upd0 (o := .tup [kV (.inr z), V.ref l2]) htp _ _ (show (L2.upd (L2.upd H2 t3 (.lst [V.int 3])) l2 (.lst (ns.map V.int ++ [V.int 3]))) l2 = _ from upd_same)
        have tpb : (L2.upd (L2.upd (L2.upd H2 t3 (.lst [V.int 3])) l2 (.lst (ns.map V.int ++ [V.int 3]))) tp (.tup [kV (.inr z), V.ref l2])) tp = some (.tup [kV (.inr z), V.ref l2]) := upd_same
        have nlD : l2 ≠ D := fun y => by rw [y, s2 _ _ hDk] at hl2; cases hl2
        revert s3 l2b tpb
        generalize L2.upd (L2.upd (L2.upd H2 t3 (.lst [V.int 3])) l2 (.lst (ns.map V.int ++ [V.int 3]))) tp (.tup [kV (.inr z), V.ref l2]) = H7
        intro s3 l2b tpb
        have hD7 := s3 _ _ hDk
        have hj4 : j < ks.length := by
          rw [← hkl]
          exact hj
        refine ⟨_, hD7, by rw [List.length_map, hpl]; omega, Same.over (s1.trans s3) hD, ps ++ [tp], kv2 ++ [(.inr z, .ref l2)], ?_, ?_, ?_, ?_, ?_⟩
        · rw [upd_same, List.map_append]
          rfl
        · rw [List.length_append, hpl]
          rfl
        · refine (L2.Paired.mapP hpd fun q kv e => ?_).snoc ?_
          · have e7 := s3 _ _ e
            exact (upd_ne (ne_of e7 hD7 (fun y => nomatch y))).trans e7
          · exact (upd_ne (ne_of tpb hD7 (fun y => nomatch y))).trans tpb
        · rw [List.map_append, hks, List.take_add_one, hz, List.map_append]
          rfl
        · intro kv hkv2 y hy ns' hy2
          rcases List.mem_append.mp hkv2 with h | h
          · obtain ⟨l3, f1, f2⟩ := hkv kv h y hy ns' hy2
            have n3 : l3 ≠ D := fun w => by
              rw [w, hDk] at f2
              have f3 := Option.some.inj f2
              injection f3 with f4
              rw [List.map_append] at f4
              have f5 := congrArg List.getLast? f4
              rw [List.getLast?_append] at f5
              cases ps with
              | nil => simp at f5
              | cons q qs =>
                have : ∃ u, ((q :: qs).map V.ref).getLast? = some (.ref u) := by
                  rw [List.getLast?_map]
                  cases e : (q :: qs).getLast? with
                  | none => simp at e
                  | some u => exact ⟨u, rfl⟩
                obtain ⟨u, hu⟩ := this
                rw [hu] at f5
                simp at f5
            exact ⟨l3, f1, (upd_ne n3).trans (s3 _ _ f2)⟩
          · rw [List.mem_singleton.mp h] at hy ⊢
            cases hy
            rw [hns] at hy2
            cases hy2
            exact ⟨l2, rfl, (upd_ne nlD).trans (by rw [l2b, List.map_append]; rfl)⟩
      · rintro H1 ⟨s1, ps, kv2, hDk, hpl, hpd, hks, hkv⟩
        rw [show ks.take kvs.length = ks by rw [hkl]; exact List.take_length] at hks
        refine ⟨s1 _ _ fz, D, ps, kv2, rfl, SqL.of ((upd_ne nDo).trans hDk), L2.Paired.mapP hpd fun q kv e => SqT.of ((upd_ne (ne_of e (s1 _ _ fz) (fun y => nomatch y))).trans e), fun b hb => ?_⟩
        rw [merge_new kv2 [] (fun _ _ => rfl) (nodup_inr hks k3), List.nil_append]
        have sU : Same H14 (L2.upd H1 d0 (.dK kvs)) := fun c u e => by
          by_cases hc : c = d0
          · rw [hc] at e ⊢
            rw [k1] at e
            rw [upd_same, e]
          · rw [upd_ne hc]
            exact s1 _ _ (fo c u hc e)
        have s2 := same_upd0 (o := .dK kv2) hb
        refine ⟨b, rfl, sU.trans s2, stAt_of upd_same hks k3 k4 (fun z => ?_) k6 fun kv hkv2 z hz ns e => ?_⟩
        · rw [k5 z]
          show _ ↔ ((F0 z).map _).isSome = true
          cases F0 z <;> simp
        · have e : (F0 z).map (· ++ [3]) = some ns := e
          cases eF : F0 z with
          | none => rw [eF] at e; cases e
          | some ns0 =>
            rw [eF] at e
            cases e
            obtain ⟨l3, f1, f2⟩ := hkv kv hkv2 z hz ns0 eF
            obtain ⟨_, _, _, e3, e4⟩ := k7 z ns0 eF
            have h4 := hF4 z ns0 eF
            refine ⟨l3, f1, s2 _ _ ((upd_ne (ne_of f2 (s1 _ _ fz) (fun y => nomatch y))).trans f2), by rw [List.length_append]; show ns0.length + 1 ≤ 8; omega, fun n hn => ?_⟩
            rcases List.mem_append.mp hn with h | h
            · exact e4 n h
            · rw [List.mem_singleton.mp h]; rfl
    rintro _ G15 ⟨d2, rfl, s15, st15w⟩
    generalize hF2 : (fun z => (F0 z).map (· ++ [3])) = F2 at st15w
    have hT2 : ∀ z ∈ strsOf xs, (F2 z).isSome = true := fun z hz => by
      have := hT0 z hz
      rw [← hF2]
      show ((F0 z).map _).isSome = true
      cases e : F0 z with
      | none => rw [e] at this; cases this
      | some a => rfl
    have hTL2 : ∀ z ∈ strsOf xs, (lvF F2 z).isSome = true := fun z hz => by rw [lv_some]; exact hT2 z hz
    have okP2 : PsOk (pairsOf (lastsF (lvF F2)) kind xs) := ps_ok hk hf (lasts_ok st15w)
    obtain ⟨w1, w2, w3⟩ := okP2.repr
    have hO2 := fok_of st15w
    -- the pairs by wider lives
    refine ⟨kind, hk, _, rfl, a, dx, fs, rfl, s15 _ _ ha14, hlk, _, rfl, fun lw dxw nx nd ne => linitS nx nd st15w (by decide) fun H16 s16 L16 => ⟨rfl, a, lw, kind, xs, lvF F2, rfl, hk, hf, A14.same (s15.trans s16), L16, hO2, fun _ H17 t us s17 ht hp => ?_, fun _ _ _ T hi e _ => noT hTL2 T hi e⟩⟩
    refine ⟨t, us, _, rfl, ht, hp, okP2.1, fun H18 c vs s18 hc hpv => ?_⟩
    refine ⟨_, _, rfl, DuAt.dp ⟨vs, hc, hpv⟩, w1, w2, w3, ?_⟩
    have sB := s15.trans (s16.trans (s17.trans s18))
    refine ⟨_, rfl, _, rfl, tr, d2, 4, kind, xs, F2, rfl, sB _ _ htr14, hk, hf, st15w.same (s16.trans (s17.trans s18)), hT2, fun G19 du2 us2 s19 hdu2 hpd2 => ?_⟩
    refine ⟨_, _, rfl, DuAt.dp ⟨us2, hdu2, hpd2⟩, w1, w2, w3, rfl, _, rfl, ite2 (fun e => absurd e (by simp)) (fun _ => ?_)⟩
    have sC := sB.trans s19
    have A19 := A14.same sC
    have L19 := L14.same sC
    have st19 := st14.same sC
    have htr19 := sC _ _ htr14
    have t19 := tabs_same t14 sC
    have hkl19 := sC _ _ hkl14
    have pen19 := pen14.same sC
    have D19 := D14.same sC
    have ha19 := sC _ _ ha14
    clear s15 st15w hF2 hT2 hTL2 okP2 w1 w2 w3 hO2 nx nd ne s16 L16 s17 ht hp s18 hc hpv sB s19 hdu2 hpd2 sC A14 L14 st14 htr14 t14 hkl14 pen14 D14 ha14
    -- the pairs once more
    refine ⟨kind, hk, _, rfl, a, dx, fs, rfl, ha19, hlk, _, rfl, a, hv, kind, xs, lvF F0, rfl, hk, hf, A19, L19, hO, fun _ H13 t us s13 ht hp => ?_, fun _ _ _ T hi e _ => noT hTL T hi e⟩
    refine ⟨t, us, _, rfl, ht, hp, okP.1, fun H14 c vs s14 hc hpv => ?_⟩
    refine ⟨_, _, rfl, DuAt.dp ⟨vs, hc, hpv⟩, r1, r2, r3, ?_⟩
    have sB := s13.trans s14
    refine ⟨_, rfl, _, _, rfl, (D19.same sB).dp, r1, r2, r3, rfl, _, rfl, ite2 (fun e => absurd e (by simp)) (fun _ => ?_)⟩
    have A20 := A19.same sB
    have st20 := st19.same sB
    have htr20 := sB _ _ htr19
    have t20 := tabs_same t19 sB
    have hkl20 := sB _ _ hkl19
    have pen20 := pen19.same sB
    have D20 := D19.same sB
    clear s13 ht hp s14 hc hpv sB A19 L19 st19 htr19 t19 hkl19 pen19 D19 ha19
    -- the words
    refine ⟨fun σ G => ∃ (pw : Addr) (ns : List Str), σ = [some (.ref a0), some (.ref p), some (.str kind), some (.ref cr), some (.ref tr), some (.ref d0), some (.ref hv), some (.ref du), some (.ref d2), some (.ref pw), x10, x11, x12, some (.ref a), none] ∧ Same H14 G ∧ G pw = some (.lst (ns.map V.str)) ∧ Tls ns xs ∧ ns.length ≤ 4 ∧ pw ≠ p, ?_, ?_⟩
    · refine ⟨_, rfl, tr, kind, xs, rfl, htr20, by omega, hfl, fun H21 nl s21 nl0 hnl => ?_⟩
      rw [strs_filter] at hnl
      have hs4 := strs_len xs
      refine ⟨nl, strsOf xs, rfl, SqL.of hnl, by omega, fun p5 n5 hp5 hn5 => ⟨p5, _, n5, rfl, upd_same, by omega, fun ns p6 h1 h2 h3 h4 hp6 => ?_⟩⟩
      exact ⟨p6, ns, rfl, s21.trans ((same_upd0 hp5).trans (same_upd0 (o := .lst (ns.map V.str)) hp6)), upd_same, ⟨h1, h2, fun k => by rw [h3 k, decide_eq_true_eq]⟩, by omega, Pen.ne (pen20.same (s21.trans (same_upd0 hp5))) hp6⟩
    rintro _ G22 ⟨pw, ns, rfl, sC, hw22, TL, hnsl, npw⟩
    have A22 := A20.same sC
    have st22 := st20.same sC
    have t22 := tabs_same t20 sC
    have hkl22 := sC _ _ hkl20
    have pen22 := pen20.same sC
    have D22 := D20.same sC
    clear A20 st20 htr20 t20 hkl20 pen20 D20 sC
    -- what is gone
    refine ⟨_, rfl, pw, rfl, ⟨_, SqL.of hw22⟩, fun D hD => ?_⟩
    have nD := pen22.ne hD
    refine lc_it walk_list (fun j H' => ∃ (gs : List Str) (n' : Nat) (g' : Int), gs.Sublist (ns.take j) ∧ H' D = some (.lst (gs.map V.str)) ∧ Pen H' p l cc n' g' ∧ n' ≤ n7 + j ∧ Off p G22 H')
      ⟨[], n7, g7, List.Sublist.slnil, upd_same, pen22.new hD, by omega, offS (same_upd0 hD)⟩ (fun _ _ _ y => by obtain ⟨_, _, _, _, _, _, _, o⟩ := y; exact SqL.of (o _ _ npw hw22)) ?_ ?_
    · rintro j x H1 H2 hj ⟨gs, n8, g8, sub, hDj, pen8, hn8, off8⟩ ⟨rfl, hx⟩
      obtain ⟨z, hz, rfl⟩ : ∃ z, ns[j]? = some z ∧ x = .str z := by
        rw [List.getElem?_map] at hx
        cases e : ns[j]? with
        | none => rw [e] at hx; cases hx
        | some n => rw [e] at hx; exact ⟨n, rfl, (Option.some.inj hx).symm⟩
      have hj4 : j < 4 := by rw [List.length_map] at hj; omega
      have hgl : gs.length ≤ 4 := by
        have h1 := sub.length_le
        have h2 : (ns.take j).length ≤ ns.length := List.length_take_le' _ _
        omega
      refine ⟨rfl, _, rfl, p, l, cc, n8, g8, _, rfl, pen8, by omega, by decide, by decide, fun e n9 g9 H9 e0 e2 hn9 off9 pen9 => ⟨rfl, _, rfl, ite2 (fun _ => ?_) (fun _ => ?_)⟩⟩
      · refine ⟨_, rfl, _, off9 _ _ nD hDj, by rw [List.length_map]; omega, gs ++ [z], n9, g9, ?_, ?_, ?_, by omega, ?_⟩
        · rw [List.take_add_one, hz]
          exact sub.append (List.Sublist.refl _)
        · rw [upd_same, List.map_append]
          rfl
        · exact ⟨(upd_ne (Ne.symm nD)).trans pen9.pen, (upd_ne (ne_of_none pen22.cells hD)).trans pen9.cells, pen9.left⟩
        · intro c' o hc' e'
          rw [upd_ne (fun y => by rw [y, hD] at e'; cases e')]
          exact off9 _ _ hc' (off8 _ _ hc' e')
      · refine ⟨gs, n9, g9, ?_, off9 _ _ nD hDj, pen9, by omega, off8.trans off9⟩
        rw [List.take_add_one]
        exact sub.trans (List.sublist_append_left _ _)
    rintro G23 ⟨gs, n8, g8, sub, hg23, pen23, hn8, off8⟩
    rw [List.length_map] at hn8
    rw [List.length_map, List.take_length] at sub
    have hgl : gs.length ≤ 4 := by
      have h1 := sub.length_le
      omega
    have A23 := A22.off pen22.pen off8
    have st23 := st22.off pen22 off8
    have t23 := tabs_off pen22.pen t22 off8
    have hkl23 := off8 _ _ nkp hkl22
    have D23 := D22.off pen22 off8
    clear A22 st22 t22 hkl22 D22 pen22 off8 hw22 npw hD nD
    -- the lives that lack it
    refine ⟨fun v H' => ∃ d3, v = .ref d3 ∧ Same G23 H' ∧ StAt H' d3 4 (fun z => if z ∈ gs then none else F0 z), ?_, ?_⟩
    · obtain ⟨kvs, ks, k1, k2, k3, k4, k5, k6, k7⟩ := id st23
      have hkl : kvs.length = ks.length := by
        have := congrArg List.length k2
        rw [List.length_map, List.length_map] at this
        exact this
      refine ⟨d0, .dK kvs, k1, trivial, fun od => ?_⟩
      have fz : (L2.upd G23 d0 (.frz od (.dK kvs))) d0 = some (.frz od (.dK kvs)) := upd_same
      have fo : ∀ c u, c ≠ d0 → G23 c = some u → (L2.upd G23 d0 (.frz od (.dK kvs))) c = some u := fun c u e1 e2 => (upd_ne e1).trans e2
      have hgF := fo _ _ (ne_of hg23 k1 (fun z => nomatch z)) hg23
      revert fz fo hgF
      generalize L2.upd G23 d0 (.frz od (.dK kvs)) = HF
      intro fz fo hgF
      refine ⟨_, rfl, d0, od, rfl, .inl ⟨kvs, fz, fun D' hD => ?_⟩⟩
      have nDo : D' ≠ d0 := (ne_of_none fz hD).symm
      refine lc_it (walk_keys (d := d0) (o := od) (kvs := kvs)) (fun j H' => Same HF H' ∧ ∃ (ps : List Addr) (kv2 : List (Key × V)), H' D' = some (.lst (ps.map V.ref)) ∧ ps.length ≤ j ∧ Paired (fun q kv => H' q = some (.tup [kV kv.1, kv.2])) ps kv2 ∧ kv2.map (·.1) = ((ks.take j).filter fun z => !gs.contains z).map Sum.inr ∧
          ∀ kv ∈ kv2, ∀ z, kv.1 = .inr z → ∀ ns, F0 z = some ns → ∃ l, kv.2 = .ref l ∧ G23 l = some (.lst (ns.map V.int)))
        ⟨same_upd0 hD, [], [], upd_same, Nat.le_refl _, .nil, rfl, fun _ h => nomatch h⟩ (fun _ _ _ h => h.1 _ _ fz) ?_ ?_
      · rintro j x H1 H2 hj ⟨s1, ps, kv2, hDk, hpl, hpd, hks, hkv⟩ ⟨rfl, k0, v0, hkv0, rfl⟩
        obtain ⟨z, hz, rfl⟩ : ∃ z, ks[j]? = some z ∧ k0 = .inr z := by
          have h1 : (kvs.map (·.1))[j]? = some k0 := by rw [List.getElem?_map, hkv0]; rfl
          rw [k2, List.getElem?_map] at h1
          cases e : ks[j]? with
          | none => rw [e] at h1; cases h1
          | some z => rw [e] at h1; exact ⟨z, rfl, (Option.some.inj h1).symm⟩
        obtain ⟨ns0, hns⟩ := Option.isSome_iff_exists.mp ((k5 z).mp (List.mem_of_getElem? hz))
        obtain ⟨l0, e1, e2, e3, e4⟩ := k7 z ns0 hns
        have hj4 : j < ks.length := by
          rw [← hkl]
          exact hj
        have et : ks.take (j + 1) = ks.take j ++ [z] := by rw [List.take_add_one, hz]; rfl
        refine ⟨rfl, _, rfl, _, rfl, D, _, rfl, .inl (SqL.of (s1 _ _ hgF)), rfl, flat_strs gs, _, rfl, ite2 (fun e => ?_) (fun e => ?_)⟩
        · have e : (!inV (V.str z) (gs.map V.str)) = true := e
          rw [inV_strs] at e
          refine ⟨_, rfl, _, rfl, _, rfl, d0, _, rfl, .inl ⟨kvs, .inr z, .inr ⟨od, s1 _ _ fz⟩, rfl, e1.symm⟩, by show 2 ≤ sizeLine; decide, fun tp htp => ?_⟩
          have s3 := same_upd0 (o := .tup [V.str z, .ref l0]) htp
          have hD7 := s3 _ _ hDk
          refine ⟨_, hD7, by rw [List.length_map]; omega, Same.over (s1.trans s3) hD, ps ++ [tp], kv2 ++ [(.inr z, .ref l0)], ?_, ?_, ?_, ?_, ?_⟩
          · rw [upd_same, List.map_append]
            rfl
          · rw [List.length_append]
            show ps.length + 1 ≤ _
            omega
          · refine (L2.Paired.mapP hpd fun q kv e => ?_).snoc ?_
            · have e7 := s3 _ _ e
              exact (upd_ne (ne_of e7 hD7 (fun y => nomatch y))).trans e7
            · exact (upd_ne (ne_of (show (L2.upd _ tp (.tup [V.str z, .ref l0])) tp = some (.tup [V.str z, .ref l0]) from upd_same) hD7 (fun y => nomatch y))).trans upd_same
          · rw [List.map_append, hks, et, List.filter_append, List.filter_cons, if_pos e, List.map_append]
            rfl
          · intro kv hkv2 y hy ns' hy2
            rcases List.mem_append.mp hkv2 with h | h
            · exact hkv kv h y hy ns' hy2
            · rw [List.mem_singleton.mp h] at hy ⊢
              cases hy
              rw [hns] at hy2
              cases hy2
              exact ⟨l0, rfl, e2⟩
        · have e : ¬ (!inV (V.str z) (gs.map V.str)) = true := e
          rw [inV_strs] at e
          refine ⟨s1, ps, kv2, hDk, by omega, hpd, ?_, hkv⟩
          rw [hks, et, List.filter_append, List.filter_cons, if_neg e, List.filter_nil, List.append_nil]
      · rintro H1 ⟨s1, ps, kv2, hDk, hpl, hpd, hks, hkv⟩
        rw [show ks.take kvs.length = ks by rw [hkl]; exact List.take_length] at hks
        have nd2 : (ks.filter fun z => !gs.contains z).Nodup := k3.sublist List.filter_sublist
        refine ⟨s1 _ _ fz, D', ps, kv2, rfl, SqL.of ((upd_ne nDo).trans hDk), L2.Paired.mapP hpd fun q kv e => SqT.of ((upd_ne (ne_of e (s1 _ _ fz) (fun y => nomatch y))).trans e), fun b hb => ?_⟩
        rw [merge_new kv2 [] (fun _ _ => rfl) (nodup_inr hks nd2), List.nil_append]
        have sU : Same G23 (L2.upd H1 d0 (.dK kvs)) := fun c u e => by
          by_cases hc : c = d0
          · rw [hc] at e ⊢
            rw [k1] at e
            rw [upd_same, e]
          · rw [upd_ne hc]
            exact s1 _ _ (fo c u hc e)
        have s2 := same_upd0 (o := .dK kv2) hb
        refine ⟨b, rfl, sU.trans s2, stAt_of upd_same hks nd2 (Nat.le_trans (List.length_filter_le _ _) k4) (fun z => ?_) (fun z hz => k6 z (List.mem_filter.mp hz).1) fun kv hkv2 z hz ns' e => ?_⟩
        · rw [List.mem_filter, k5 z]
          by_cases c : z ∈ gs
          · simp [c]
          · simp [c]
        · have e : (if z ∈ gs then none else F0 z) = some ns' := e
          by_cases c : z ∈ gs
          · rw [if_pos c] at e; cases e
          · rw [if_neg c] at e
            obtain ⟨l3, f1, f2⟩ := hkv kv hkv2 z hz ns' e
            obtain ⟨_, _, _, e3, e4⟩ := k7 z ns' e
            exact ⟨l3, f1, (sU.trans s2) _ _ f2, e3, e4⟩
    rintro _ G24 ⟨d3, rfl, s24, st24⟩
    refine fun fv dxf nx nd ne => linitS nx nd st24 (by decide) fun G25 s25 L25 => ⟨rfl, ?_⟩
    have hO3 := fok_of st24
    have sD := s24.trans s25
    have A25 := A23.same sD
    have t25 := tabs_same t23 sD
    have hkl25 := sD _ _ hkl23
    have pen25 := pen23.same sD
    have D25 := D23.same sD
    have hg25 := sD _ _ hg23
    clear A23 st23 t23 hkl23 pen23 D23 hg23 s24 s25 sD nx nd ne st24
    -- what is heard
    obtain ⟨dx5, fs5, ha25, tl5⟩ := id A25
    refine ⟨fun σ G => ∃ (rr : Addr) (wd : Str) (u : V), σ = [some (.ref a0), some (.ref p), some (.str kind), some (.ref cr), some (.ref tr), some (.ref d0), some (.ref hv), some (.ref du), some (.ref d2), some (.ref pw), some (.ref D), some (.ref rr), some (.ref fv), some (.ref a), none] ∧ ExtN G25 G ∧ Tabs T G ∧ G rr = some (.tup [.str wd, u]) ∧
        ((gs = [] ∧ wd = "told" ∧ u = .int ((pairsOf (lastsF (lvF F0)) kind xs).length : Nat)) ∨ ∃ g0 gr, gs = g0 :: gr ∧ wd = "tool" ∧ u = .str g0), ?_, ?_⟩
    · refine ⟨t25, fun H7 x7 t7 => ?_⟩
      have A7 := A25.ext x7
      have L7 := L25.ext x7
      obtain ⟨dx7, fs7, ha7, tl7⟩ := id A7
      refine ⟨kind, hk, _, rfl, a, dx7, fs7, rfl, ha7, tl7.2.2.2 "pairs" (by simp [methR]), _, rfl, a, fv, kind, xs, _, rfl, hk, hf, A7, L7, hO3, fun hall H8 t us s8 ht hp => ?_, fun ns' i z T' hi e hlow d H8 s8 ed => ?_⟩
      · have eg : gs = [] := by
          cases hgs : gs with
          | nil => rfl
          | cons g0 gr =>
            have hg0 : g0 ∈ gs := by rw [hgs]; exact List.mem_cons_self
            have := hall g0 ((TL.2.2 g0).mp (sub.subset hg0))
            rw [lv_some, if_pos hg0] at this
            cases this
        subst eg
        have eF : (fun z => if z ∈ ([] : List Str) then none else F0 z) = F0 := funext fun z => if_neg (by simp)
        rw [eF] at hp
        refine ⟨t, us, rfl, .inr (SqT.of ht), fun tt2 ht2 => ?_⟩
        have s10 := s8.trans (same_upd0 (o := .tup [.str "told", .int ((us.length : Nat) : Int)]) ht2)
        exact ⟨tt2, "told", _, rfl, x7.trans (extN_of s10), tabs_same t7 s10, upd_same, .inl ⟨rfl, rfl, by rw [paired_len hp]⟩⟩
      · obtain rfl : ns' = ns := T'.one TL
        have hzs := (TL.2.2 z).mp (List.mem_of_getElem? hi)
        have hzg : z ∈ gs := by
          refine Classical.byContradiction fun c => ?_
          have e2 : lvF (fun z => if z ∈ gs then none else F0 z) z = none := e
          have h1 := hT0 z hzs
          have h2 : (lvF (fun z => if z ∈ gs then none else F0 z) z).isSome = true := by rw [lv_some, if_neg c]; exact h1
          rw [e2] at h2
          cases h2
        have hhd := sub_head sub TL.2.1 hi hzg fun y hy c => by
          have h2 := hlow y hy
          rw [lv_some, if_pos c] at h2
          cases h2
        refine ⟨"tool", CT', "tool", .str z, d, .inl ⟨rfl, rfl, rfl⟩, rfl, rfl, ed, fun H9 rr s9 hr9 => ?_⟩
        have s10 := s8.trans s9
        refine ⟨rr, "tool", _, rfl, x7.trans (extN_of s10), tabs_same t7 s10, hr9, .inr ?_⟩
        cases hgs : gs with
        | nil => rw [hgs] at hzg; cases hzg
        | cons g0 gr =>
          rw [hgs] at hhd
          exact ⟨g0, gr, rfl, rfl, by rw [← Option.some.inj hhd]⟩
    rintro _ G ⟨rr, wd, u, rfl, xG, tG, hrr, hcase⟩
    have pen7 := pen_ext pen25 xG
    have D7 := D25.ext xG
    have hg7 := xG _ _ hg25 lst_ne
    have hkl7 := xG _ _ hkl25 lst_ne
    obtain ⟨us7, hdu7, hpd7⟩ := id D7
    have hul := paired_len hpd7
    obtain ⟨ud, okw, oku, hud⟩ : ∃ d : PyData, OkD 2000 0 (.str wd) ∧ OkD 2000 0 d ∧ ∀ G', Dp K G' u d := by
      rcases hcase with ⟨_, rfl, rfl⟩ | ⟨g0, gr, e, rfl, rfl⟩
      · refine ⟨.int _, OkD.str (by decide +kernel) (by decide +kernel), OkD.int ?_, fun _ => .int _⟩
        have := okP.1
        omega
      · have hg0 : g0 ∈ strsOf xs := (TL.2.2 g0).mp (sub.subset (by rw [e]; exact List.mem_cons_self))
        have hn0 : isName g0 = true := by
          cases hfl _ (strs_mem hg0) with
          | nam h => exact h
        exact ⟨.str _, OkD.str (by decide +kernel) (by decide +kernel), OkD.str (name_small hn0) (Nat.le_trans (name_len hn0) (by decide)), fun _ => .str _⟩
    obtain ⟨k1, k2, k3⟩ := (OkD.tuple (n := 2000) (m := 0) (ds := [.str wd, ud]) (by simp only [List.forall_mem_cons]; exact ⟨okw, oku, fun _ h => nomatch h⟩)).repr (by decide) (by show 2000 * 2 + 2 * 2 + 3 ≤ 16777216; decide)
    refine ⟨_, rfl, _, _, rfl, .tup (SqT.of hrr) (.cons (.str _) (.cons (hud _) .nil)), k1, k2, k3, ?_⟩
    refine ⟨_, rfl, by show 0 ≤ sizeLine; decide, fun nl hnl => ⟨D, nl, _, rfl, rfl, SqL.of (same_upd0 hnl _ _ hg7), SqL.of upd_same, _, rfl, ?_⟩⟩
    have s2 := same_upd0 (o := .lst []) hnl
    rcases hcase with ⟨rfl, rfl, rfl⟩ | ⟨g0, gr, rfl, rfl, rfl⟩
    · refine iteF ?_
      refine ⟨_, rfl, du, us7, rfl, .inl (SqL.of (s2 _ _ hdu7)), by show 2 ≤ sizeLine; decide, fun r2 hr2 => ?_⟩
      rw [hul]
      have s4 := s2.trans (same_upd0 (o := .tup [.str "told", .int ((pairsOf (lastsF (lvF F0)) kind xs).length : Nat)]) hr2)
      refine ⟨_, _, rfl, .tup (SqT.of upd_same) (.cons (.str _) (.cons (hud _) .nil)), k1, k2, k3, rfl, _, rfl, ite2 (fun e => absurd e (by simp)) (fun _ => ?_)⟩
      exact ⟨_, _, _, _, _, _, _, _, _, _, _, _, n8, g8, rfl, pen7.same s4, by omega, tabs_same tG s4, s4 _ _ hkl7⟩
    · refine iteT ?_
      refine ⟨_, rfl, D, _, 0, .str g0, rfl, rfl, SqL.of (s2 _ _ hg7), atI_nat (j := 0) rfl, by show 2 ≤ sizeLine; decide, fun r2 hr2 => ?_⟩
      have s4 := s2.trans (same_upd0 (o := .tup [.str "tool", .str g0]) hr2)
      refine ⟨_, _, rfl, .tup (SqT.of upd_same) (.cons (.str _) (.cons (hud _) .nil)), k1, k2, k3, rfl, _, rfl, ite2 (fun e => absurd e (by simp)) (fun _ => ?_)⟩
      exact ⟨_, _, _, _, _, _, _, _, _, _, _, _, n8, g8, rfl, pen7.same s4, by omega, tabs_same tG s4, s4 _ _ hkl7⟩
end
end K13

namespace K13
open PySem PySem.Spec PyProof.Rows L2 So LamX
def strOf? : Value → Option Str
  | .str x _ => some x
  | _ => none
theorem vals_strs : ∀ {ss : List Str} {us : List Value}, us.map strOf? = ss.map some → Vals (ss.map V.str) us
  | [], [], _ => .nil
  | [], _ :: _, h => by simp at h
  | _ :: _, [], h => by simp at h
  | x :: ss, u :: us, h => by
    simp only [List.map_cons, List.cons.injEq] at h
    refine .cons ?_ (vals_strs h.2)
    cases u <;> simp [strOf?] at h
    rename_i y t
    exact ⟨t, by rw [h.1]⟩
theorem tab_seq {K : PySem.W.Frag} {a : Addr} {od : Option Addr} {its : Array Value} {n : Nat} {sl : Array (Option Value)} {ss : List Str} (l : K.lookup a = some ⟨.type "tuple", od, .seq its n, sl⟩) (v : its.toList.map strOf? = ss.map some) (hz : ss.length ≤ 1000) (H : Hp) : SqT K H a (ss.map V.str) := by
  have hv := vals_strs v
  refine .inr ⟨_, its, n, l, rfl, rfl, ?_, hv⟩
  have := hv.length
  rw [List.length_map] at this
  rw [← Array.length_toList, ← this]
  exact Nat.le_trans hz (by decide)
section
variable {K : PySem.W.Frag}
theorem exm_own {D S : Addr} (h2 : PySem.W.isClsIn K S = true) (h3 : PySem.W.typeIn K (.ref S) = some (.type "type")) (h1 : PySem.W.subIn K (.ref S) (.type "BaseException") = some true) (h4 : PySem.W.subIn K (.ref D) (.ref S) = some true) (_ : PySem.W.subIn K (.ref S) (.ref S) = some true) : PySem.W.exmOne K (.ref D) (.ref S) = some true := by
  unfold PySem.W.exmOne PySem.W.kitCls
  unfold PySem.W.isClsIn at h2
  simp [h1, h2, h3, h4]
theorem tab_by {x : Str} {f c P : Addr} {o1 u1 : Value} {o2 u2 : Option Addr} {o3 u3 : Array (Option Value)} {fd : FuncData} {vs : Array Value} (a : PySem.W.nsIn K mainGlobals x = some (some (.ref f))) (l : K.lookup f = some ⟨o1, o2, .func fd, o3⟩) (hc : fd.code = .ref c)
    (lc : K.lookup c = some ⟨u1, u2, .fields vs, u3⟩) (hv : (vs[11]? : Option Value) = some (.ref P)) : PySem.W.tabIn K x = some (c, P) := by
  unfold PySem.W.tabIn
  rw [a]
  simp only [l, hc, lc, hv]
theorem kit_VE {D : Addr} (h : PySem.W.subIn K (.ref D) (.type "ValueError") = some true) : PySem.W.kitOne K (.ref D) (.type "ValueError") = some true := by
  unfold PySem.W.kitOne PySem.W.kitCls
  have e : PySem.W.kitMeta "ValueError" = true := by decide +kernel
  simp [h, e]
theorem kit_own {D C : Addr} {b : Bool} (hc : PySem.W.isClsIn K C = true) (ht : PySem.W.typeIn K (.ref C) = some (.type "type")) (hs : PySem.W.subIn K (.ref D) (.ref C) = some b) (self : PySem.W.subIn K (.ref C) (.ref C) = some true) : PySem.W.kitOne K (.ref D) (.ref C) = some b := by
  by_cases e : D = C
  · subst e
    rw [self] at hs
    rw [kit_self, hs]
  · unfold PySem.W.kitOne PySem.W.kitCls
    unfold PySem.W.isClsIn at hc
    simp [hc, ht, hs, e]
end
def T1 (P1 : Addr) : List (Addr × Str) := [(P1, (envOfC "law" (defScope sLaw) 0 0 .none).qual ++ "<lambda>")]
/-- the classes of the kinds -/
def cfOf (C_begun C_setby C_found C_trusted C_passed C_failed C_agreed C_differed C_served C_backed : Addr) : Str → Addr := fun kind => if kind = "begun" then C_begun else if kind = "setby" then C_setby else if kind = "found" then C_found else if kind = "trusted" then C_trusted else if kind = "passed" then C_passed else if kind = "failed" then C_failed else if kind = "agreed" then C_agreed else if kind = "differed" then C_differed else if kind = "served" then C_served else C_backed
theorem cf_all (C_begun C_setby C_found C_trusted C_passed C_failed C_agreed C_differed C_served C_backed : Addr) : cfOf C_begun C_setby C_found C_trusted C_passed C_failed C_agreed C_differed C_served C_backed "begun" = C_begun ∧ cfOf C_begun C_setby C_found C_trusted C_passed C_failed C_agreed C_differed C_served C_backed "setby" = C_setby ∧ cfOf C_begun C_setby C_found C_trusted C_passed C_failed C_agreed C_differed C_served C_backed "found" = C_found ∧ cfOf C_begun C_setby C_found C_trusted C_passed C_failed C_agreed C_differed C_served C_backed "trusted" = C_trusted ∧ cfOf C_begun C_setby C_found C_trusted C_passed C_failed C_agreed C_differed C_served C_backed "passed" = C_passed ∧ cfOf C_begun C_setby C_found C_trusted C_passed C_failed C_agreed C_differed C_served C_backed "failed" = C_failed ∧ cfOf C_begun C_setby C_found C_trusted C_passed C_failed C_agreed C_differed C_served C_backed "agreed" = C_agreed ∧ cfOf C_begun C_setby C_found C_trusted C_passed C_failed C_agreed C_differed C_served C_backed "differed" = C_differed ∧ cfOf C_begun C_setby C_found C_trusted C_passed C_failed C_agreed C_differed C_served C_backed "served" = C_served ∧ cfOf C_begun C_setby C_found C_trusted C_passed C_failed C_agreed C_differed C_served C_backed "backed" = C_backed := by
  refine ⟨?_, ?_, ?_, ?_, ?_, ?_, ?_, ?_, ?_, ?_⟩ <;> unfold cfOf
  · exact if_pos rfl
  · rw [if_neg (by decide +kernel)]; exact if_pos rfl
  · rw [if_neg (by decide +kernel)]; rw [if_neg (by decide +kernel)]; exact if_pos rfl
  · rw [if_neg (by decide +kernel)]; rw [if_neg (by decide +kernel)]; rw [if_neg (by decide +kernel)]; exact if_pos rfl
  · rw [if_neg (by decide +kernel)]; rw [if_neg (by decide +kernel)]; rw [if_neg (by decide +kernel)]; rw [if_neg (by decide +kernel)]; exact if_pos rfl
  · rw [if_neg (by decide +kernel)]; rw [if_neg (by decide +kernel)]; rw [if_neg (by decide +kernel)]; rw [if_neg (by decide +kernel)]; rw [if_neg (by decide +kernel)]; exact if_pos rfl
  · rw [if_neg (by decide +kernel)]; rw [if_neg (by decide +kernel)]; rw [if_neg (by decide +kernel)]; rw [if_neg (by decide +kernel)]; rw [if_neg (by decide +kernel)]; rw [if_neg (by decide +kernel)]; exact if_pos rfl
  · rw [if_neg (by decide +kernel)]; rw [if_neg (by decide +kernel)]; rw [if_neg (by decide +kernel)]; rw [if_neg (by decide +kernel)]; rw [if_neg (by decide +kernel)]; rw [if_neg (by decide +kernel)]; rw [if_neg (by decide +kernel)]; exact if_pos rfl
  · rw [if_neg (by decide +kernel)]; rw [if_neg (by decide +kernel)]; rw [if_neg (by decide +kernel)]; rw [if_neg (by decide +kernel)]; rw [if_neg (by decide +kernel)]; rw [if_neg (by decide +kernel)]; rw [if_neg (by decide +kernel)]; rw [if_neg (by decide +kernel)]; exact if_pos rfl
  · rw [if_neg (by decide +kernel)]; rw [if_neg (by decide +kernel)]; rw [if_neg (by decide +kernel)]; rw [if_neg (by decide +kernel)]; rw [if_neg (by decide +kernel)]; rw [if_neg (by decide +kernel)]; rw [if_neg (by decide +kernel)]; rw [if_neg (by decide +kernel)]; rw [if_neg (by decide +kernel)]
theorem all10 {p : Str → Prop} (h0 : p "begun") (h1 : p "setby") (h2 : p "found") (h3 : p "trusted") (h4 : p "passed") (h5 : p "failed") (h6 : p "agreed") (h7 : p "differed") (h8 : p "served") (h9 : p "backed") : ∀ kind ∈ kinds, p kind := by
  intro kind hk
  unfold kinds at hk
  simp only [List.mem_cons, List.not_mem_nil, or_false] at hk
  rcases hk with h | h | h | h | h | h | h | h | h | h <;> subst h <;> assumption
theorem kb_lives {K : PySem.W.Frag} {fd : FuncData} (h : ∀ (s : Shared) (u w : Value), BindsTo s fd ⟨[u], [("lives", w)]⟩ [("self", u), ("lives", w)]) : KBinds K fd ["self", "lives"] ["lives"] kOne kOne := by
  refine ⟨fun s us ws _ hl => ?_, fun {vs us zs ws} r rz => ?_⟩
  · match us, ws, hl with
    | [u], [w], _ => exact h s u w
    | [], _, hl => cases hl
    | [_], [], hl => cases hl
    | [_], _ :: _ :: _, hl => cases hl
    | _ :: _ :: _, _, hl => cases hl
  · cases r with
    | nil => exact .nil
    | cons r1 r =>
      cases r with
      | cons _ _ => exact .nil
      | nil =>
        cases rz with
        | nil => exact .nil
        | cons r2 rz =>
          cases rz with
          | nil => exact .cons r1 (.cons r2 .nil)
          | cons _ _ => exact .nil
theorem all_mk {l : PySem.W.OpenLaw} {w : World} {K : PySem.W.Frag} {h : Heap} {mg : Str → Option Value} {fa fpen fdraw fpick ftick flkinds fdrawn fcrew fnamed flmade flasts flpairs fheard flstarts fltold flaw c_law P_law fwhole fmoment fisname fcheck fchecked fwithf CR CY fsinit fsinv CV fvinit fvbeg fvlast fvcont pvto fvto C_begun fbegun frta frpa qpto fpto fexbegun C_setby fsetby fexsetby C_found ffound fexfound C_trusted ftrusted fextrusted C_passed fpassed fexpassed C_failed ffailed fexfailed C_agreed fagreed ccagreed cdaagreed fmeet fexagreed C_differed fdiffered ccdiffered cdadiffered fexdiffered C_served fserved ccserved cdaserved fexserved C_backed fbacked ccbacked cdabacked fexbacked aNo aF t_begun t_setby t_found t_trusted t_passed t_failed t_agreed t_differed t_served t_backed CT CN feN CM feM CS feS CO feO CL feL : Addr} (X : K.In h) (G : h.Ns mainGlobals mg) (hfa : mg "law" = some (.ref fa))
    {odpen anpen oddraw andraw odpick anpick odtick antick odlkinds anlkinds oddrawn andrawn odcrew ancrew odnamed annamed odlmade anlmade odlasts anlasts odlpairs anlpairs odheard anheard odlstarts anlstarts odltold anltold odlaw anlaw odwhole anwhole odmoment anmoment odisname anisname odcheck ancheck odchecked anchecked odwithf anwithf odsinit ansinit odsinv ansinv odvinit anvinit odvbeg anvbeg odvlast anvlast odvcont anvcont odvto anvto odbegun anbegun odrta anrta odrpa anrpa odpto anpto odexbegun anexbegun odsetby ansetby odexsetby anexsetby odfound anfound odexfound anexfound odtrusted antrusted odextrusted anextrusted odpassed anpassed odexpassed anexpassed odfailed anfailed odexfailed anexfailed odagreed anagreed cldagreed cddagreed odmeet anmeet odexagreed anexagreed oddiffered andiffered clddiffered cdddiffered odexdiffered anexdiffered odserved anserved cldserved cddserved odexserved anexserved odbacked anbacked cldbacked cddbacked odexbacked anexbacked odN odtbegun odtsetby odtfound odttrusted odtpassed odtfailed odtagreed odtdiffered odtserved odtbacked odeN aneN odeM aneM odeS aneS odeO aneO odeL aneL odclaw : Option Addr} {slpen sldraw slpick sltick sllkinds sldrawn slcrew slnamed sllmade sllasts sllpairs slheard sllstarts slltold sllaw slwhole slmoment slisname slcheck slchecked slwithf slsinit slsinv slvinit slvbeg slvlast slvcont slvto slbegun slrta slrpa slpto slexbegun slsetby slexsetby slfound slexfound sltrusted slextrusted slpassed slexpassed slfailed slexfailed slagreed cslagreed ccsagreed slmeet slexagreed sldiffered csldiffered ccsdiffered slexdiffered slserved cslserved ccsserved slexserved slbacked cslbacked ccsbacked slexbacked slN sltbegun sltsetby sltfound slttrusted sltpassed sltfailed sltagreed sltdiffered sltserved sltbacked sleN sleM sleS sleO sleL slclaw : Array (Option Value)} {ocpen kVpen dcpen pmpen ctpen cdpen ocdraw kVdraw dcdraw pmdraw ctdraw cddraw ocpick kVpick dcpick pmpick ctpick cdpick octick kVtick dctick pmtick cttick cdtick oclkinds kVlkinds dclkinds pmlkinds ctlkinds cdlkinds ocdrawn kVdrawn dcdrawn pmdrawn ctdrawn cddrawn occrew kVcrew dccrew pmcrew ctcrew cdcrew ocnamed kVnamed dcnamed pmnamed ctnamed cdnamed oclmade kVlmade dclmade pmlmade ctlmade cdlmade oclasts kVlasts dclasts pmlasts ctlasts cdlasts oclpairs kVlpairs dclpairs pmlpairs ctlpairs cdlpairs ocheard kVheard dcheard pmheard ctheard cdheard oclstarts kVlstarts dclstarts pmlstarts ctlstarts cdlstarts ocltold kVltold dcltold pmltold ctltold cdltold oclaw kVlaw dclaw pmlaw ctlaw ocwhole kVwhole dcwhole pmwhole ctwhole cdwhole ocmoment kVmoment dcmoment pmmoment ctmoment cdmoment ocisname kVisname dcisname pmisname ctisname cdisname occheck kVcheck dccheck pmcheck ctcheck cdcheck occhecked kVchecked dcchecked pmchecked ctchecked cdchecked ocwithf kVwithf dcwithf pmwithf ctwithf cdwithf ocsinit kVsinit dcsinit pmsinit ctsinit cdsinit ocsinv kVsinv dcsinv pmsinv ctsinv cdsinv ocvinit kVvinit dcvinit pmvinit ctvinit cdvinit ocvbeg kVvbeg dcvbeg pmvbeg ctvbeg cdvbeg ocvlast kVvlast dcvlast pmvlast ctvlast cdvlast ocvcont kVvcont dcvcont pmvcont ctvcont cdvcont ocvto kVvto dcvto pmvto ctvto cdvto ocbegun kVbegun dcbegun pmbegun ctbegun cdbegun ocrta kVrta dcrta pmrta ctrta cdrta ocrpa kVrpa dcrpa pmrpa ctrpa cdrpa ocpto kVpto dcpto pmpto ctpto cdpto ocexbegun kVexbegun dcexbegun pmexbegun ctexbegun cdexbegun ocsetby kVsetby dcsetby pmsetby ctsetby cdsetby ocexsetby kVexsetby dcexsetby pmexsetby ctexsetby cdexsetby ocfound kVfound dcfound pmfound ctfound cdfound ocexfound kVexfound dcexfound pmexfound ctexfound cdexfound octrusted kVtrusted dctrusted pmtrusted cttrusted cdtrusted ocextrusted kVextrusted dcextrusted pmextrusted ctextrusted cdextrusted ocpassed kVpassed dcpassed pmpassed ctpassed cdpassed ocexpassed kVexpassed dcexpassed pmexpassed ctexpassed cdexpassed ocfailed kVfailed dcfailed pmfailed ctfailed cdfailed ocexfailed kVexfailed dcexfailed pmexfailed ctexfailed cdexfailed ocagreed kVagreed dcagreed pmagreed ctagreed clagreed cclagreed ocmeet kVmeet dcmeet pmmeet ctmeet cdmeet ocexagreed kVexagreed dcexagreed pmexagreed ctexagreed cdexagreed ocdiffered kVdiffered dcdiffered pmdiffered ctdiffered cldiffered ccldiffered ocexdiffered kVexdiffered dcexdiffered pmexdiffered ctexdiffered cdexdiffered ocserved kVserved dcserved pmserved ctserved clserved cclserved ocexserved kVexserved dcexserved pmexserved ctexserved cdexserved ocbacked kVbacked dcbacked pmbacked ctbacked clbacked cclbacked ocexbacked kVexbacked dcexbacked pmexbacked ctexbacked cdexbacked oceN kVeN dceN pmeN cteN cdeN oceM kVeM dceM pmeM cteM cdeM oceS kVeS dceS pmeS cteS cdeS oceO kVeO dceO pmeO cteO cdeO oceL kVeL dceL pmeL cteL cdeL occlaw : Value} {restvto restpto : List Value}  {tG tL tA tD : Tok} {itsN : Array Value} {nN nF : Nat} {esF : Array DictEntry} {itsbegun itssetby itsfound itstrusted itspassed itsfailed itsagreed itsdiffered itsserved itsbacked : Array Value} {ntbegun ntsetby ntfound nttrusted ntpassed ntfailed ntagreed ntdiffered ntserved ntbacked : Nat} {vsagreed vsdiffered vsserved vsbacked : Array Value} {fileagreed filediffered fileserved filebacked : Str} {tfagreed tfdiffered tfserved tfbacked : Tok} {cd_agreed cd_differed cd_served cd_backed : ClassData} {vslaw : Array Value} {nmN qN : Str} {NN : Addr} {bsN subN : List Value} {snN : List Str} {abN : Bool} {colN : Option Bool} {ddN : Option Addr} {m0N m1N m2N m3N m5N : Option Value} {nmM qM : Str} {NM : Addr} {bsM subM : List Value} {snM : List Str} {abM : Bool} {colM : Option Bool} {ddM : Option Addr} {m0M m1M m2M m3M m5M : Option Value} {nmS qS : Str} {NS : Addr} {bsS subS : List Value} {snS : List Str} {abS : Bool} {colS : Option Bool} {ddS : Option Addr} {m0S m1S m2S m3S m5S : Option Value} {nmO qO : Str} {NO : Addr} {bsO subO : List Value} {snO : List Str} {abO : Bool} {colO : Option Bool} {ddO : Option Addr} {m0O m1O m2O m3O m5O : Option Value} {nmL qL : Str} {NL : Addr} {bsL subL : List Value} {snL : List Str} {abL : Bool} {colL : Option Bool} {ddL : Option Addr} {m0L m1L m2L m3L m5L : Option Value}
    (apen : PySem.W.nsIn K mainGlobals "_law_pen" = some (some (.ref fpen)))
    (lpen : K.lookup fpen = some ⟨ocpen, odpen, .func (PySem.W.fnOf "_law_pen" "_law_pen" (defArgs sPen) (defBody sPen) (defScope sPen) .none kVpen dcpen pmpen anpen cdpen ctpen), slpen⟩)
    (cpen : PySem.W.codeIn K cdpen "_law_pen" = true)
    (kpen : PySem.W.keepIn K (.ref fpen) = true)
    (adraw : PySem.W.nsIn K mainGlobals "_law_draw" = some (some (.ref fdraw)))
    (ldraw : K.lookup fdraw = some ⟨ocdraw, oddraw, .func (PySem.W.fnOf "_law_draw" "_law_draw" (defArgs sDraw) (defBody sDraw) (defScope sDraw) .none kVdraw dcdraw pmdraw andraw cddraw ctdraw), sldraw⟩)
    (cdraw : PySem.W.codeIn K cddraw "_law_draw" = true)
    (kdraw : PySem.W.keepIn K (.ref fdraw) = true)
    (apick : PySem.W.nsIn K mainGlobals "_law_pick" = some (some (.ref fpick)))
    (lpick : K.lookup fpick = some ⟨ocpick, odpick, .func (PySem.W.fnOf "_law_pick" "_law_pick" (defArgs sPick) (defBody sPick) (defScope sPick) .none kVpick dcpick pmpick anpick cdpick ctpick), slpick⟩)
    (cpick : PySem.W.codeIn K cdpick "_law_pick" = true)
    (kpick : PySem.W.keepIn K (.ref fpick) = true)
    (atick : PySem.W.nsIn K mainGlobals "_law_tick" = some (some (.ref ftick)))
    (ltick : K.lookup ftick = some ⟨octick, odtick, .func (PySem.W.fnOf "_law_tick" "_law_tick" (defArgs sTick) (defBody sTick) (defScope sTick) .none kVtick dctick pmtick antick cdtick cttick), sltick⟩)
    (ctick : PySem.W.codeIn K cdtick "_law_tick" = true)
    (ktick : PySem.W.keepIn K (.ref ftick) = true)
    (alkinds : PySem.W.nsIn K mainGlobals "_law_kinds" = some (some (.ref flkinds)))
    (llkinds : K.lookup flkinds = some ⟨oclkinds, odlkinds, .func (PySem.W.fnOf "_law_kinds" "_law_kinds" (defArgs sKinds) (defBody sKinds) (defScope sKinds) .none kVlkinds dclkinds pmlkinds anlkinds cdlkinds ctlkinds), sllkinds⟩)
    (clkinds : PySem.W.codeIn K cdlkinds "_law_kinds" = true)
    (klkinds : PySem.W.keepIn K (.ref flkinds) = true)
    (adrawn : PySem.W.nsIn K mainGlobals "_law_drawn" = some (some (.ref fdrawn)))
    (ldrawn : K.lookup fdrawn = some ⟨ocdrawn, oddrawn, .func (PySem.W.fnOf "_law_drawn" "_law_drawn" (defArgs sDrawn) (defBody sDrawn) (defScope sDrawn) .none kVdrawn dcdrawn pmdrawn andrawn cddrawn ctdrawn), sldrawn⟩)
    (cdrawn : PySem.W.codeIn K cddrawn "_law_drawn" = true)
    (kdrawn : PySem.W.keepIn K (.ref fdrawn) = true)
    (acrew : PySem.W.nsIn K mainGlobals "_law_crew" = some (some (.ref fcrew)))
    (lcrew : K.lookup fcrew = some ⟨occrew, odcrew, .func (PySem.W.fnOf "_law_crew" "_law_crew" (defArgs sCrew) (defBody sCrew) (defScope sCrew) .none kVcrew dccrew pmcrew ancrew cdcrew ctcrew), slcrew⟩)
    (ccrew : PySem.W.codeIn K cdcrew "_law_crew" = true)
    (kcrew : PySem.W.keepIn K (.ref fcrew) = true)
    (anamed : PySem.W.nsIn K mainGlobals "_law_named" = some (some (.ref fnamed)))
    (lnamed : K.lookup fnamed = some ⟨ocnamed, odnamed, .func (PySem.W.fnOf "_law_named" "_law_named" (defArgs sNamed) (defBody sNamed) (defScope sNamed) .none kVnamed dcnamed pmnamed annamed cdnamed ctnamed), slnamed⟩)
    (cnamed : PySem.W.codeIn K cdnamed "_law_named" = true)
    (knamed : PySem.W.keepIn K (.ref fnamed) = true)
    (almade : PySem.W.nsIn K mainGlobals "_law_made" = some (some (.ref flmade)))
    (llmade : K.lookup flmade = some ⟨oclmade, odlmade, .func (PySem.W.fnOf "_law_made" "_law_made" (defArgs sMade) (defBody sMade) (defScope sMade) .none kVlmade dclmade pmlmade anlmade cdlmade ctlmade), sllmade⟩)
    (clmade : PySem.W.codeIn K cdlmade "_law_made" = true)
    (klmade : PySem.W.keepIn K (.ref flmade) = true)
    (alasts : PySem.W.nsIn K mainGlobals "_law_lasts" = some (some (.ref flasts)))
    (llasts : K.lookup flasts = some ⟨oclasts, odlasts, .func (PySem.W.fnOf "_law_lasts" "_law_lasts" (defArgs sLasts) (defBody sLasts) (defScope sLasts) .none kVlasts dclasts pmlasts anlasts cdlasts ctlasts), sllasts⟩)
    (clasts : PySem.W.codeIn K cdlasts "_law_lasts" = true)
    (klasts : PySem.W.keepIn K (.ref flasts) = true)
    (alpairs : PySem.W.nsIn K mainGlobals "_law_pairs" = some (some (.ref flpairs)))
    (llpairs : K.lookup flpairs = some ⟨oclpairs, odlpairs, .func (PySem.W.fnOf "_law_pairs" "_law_pairs" (defArgs sPairsL) (defBody sPairsL) (defScope sPairsL) .none kVlpairs dclpairs pmlpairs anlpairs cdlpairs ctlpairs), sllpairs⟩)
    (clpairs : PySem.W.codeIn K cdlpairs "_law_pairs" = true)
    (klpairs : PySem.W.keepIn K (.ref flpairs) = true)
    (aheard : PySem.W.nsIn K mainGlobals "_law_heard" = some (some (.ref fheard)))
    (lheard : K.lookup fheard = some ⟨ocheard, odheard, .func (PySem.W.fnOf "_law_heard" "_law_heard" (defArgs sHeard) (defBody sHeard) (defScope sHeard) .none kVheard dcheard pmheard anheard cdheard ctheard), slheard⟩)
    (cheard : PySem.W.codeIn K cdheard "_law_heard" = true)
    (kheard : PySem.W.keepIn K (.ref fheard) = true)
    (alstarts : PySem.W.nsIn K mainGlobals "_law_starts" = some (some (.ref flstarts)))
    (llstarts : K.lookup flstarts = some ⟨oclstarts, odlstarts, .func (PySem.W.fnOf "_law_starts" "_law_starts" (defArgs sStarts) (defBody sStarts) (defScope sStarts) .none kVlstarts dclstarts pmlstarts anlstarts cdlstarts ctlstarts), sllstarts⟩)
    (clstarts : PySem.W.codeIn K cdlstarts "_law_starts" = true)
    (klstarts : PySem.W.keepIn K (.ref flstarts) = true)
    (altold : PySem.W.nsIn K mainGlobals "_law_told" = some (some (.ref fltold)))
    (lltold : K.lookup fltold = some ⟨ocltold, odltold, .func (PySem.W.fnOf "_law_told" "_law_told" (defArgs sToldL) (defBody sToldL) (defScope sToldL) .none kVltold dcltold pmltold anltold cdltold ctltold), slltold⟩)
    (cltold : PySem.W.codeIn K cdltold "_law_told" = true)
    (kltold : PySem.W.keepIn K (.ref fltold) = true)
    (alaw : PySem.W.nsIn K mainGlobals "law" = some (some (.ref flaw)))
    (llaw : K.lookup flaw = some ⟨oclaw, odlaw, .func (PySem.W.fnOf "law" "law" (defArgs sLaw) (defBody sLaw) (defScope sLaw) .none kVlaw dclaw pmlaw anlaw (.ref c_law) ctlaw), sllaw⟩)
    (claw : PySem.W.codeIn K (.ref c_law) "law" = true)
    (klaw : PySem.W.keepIn K (.ref flaw) = true)
    (awhole : PySem.W.nsIn K mainGlobals "is_whole" = some (some (.ref fwhole)))
    (lwhole : K.lookup fwhole = some ⟨ocwhole, odwhole, .func (PySem.W.fnOf "is_whole" "is_whole" (defArgs sWhole) (defBody sWhole) (defScope sWhole) .none kVwhole dcwhole pmwhole anwhole cdwhole ctwhole), slwhole⟩)
    (cwhole : PySem.W.codeIn K cdwhole "is_whole" = true)
    (kwhole : PySem.W.keepIn K (.ref fwhole) = true)
    (amoment : PySem.W.nsIn K mainGlobals "is_moment" = some (some (.ref fmoment)))
    (lmoment : K.lookup fmoment = some ⟨ocmoment, odmoment, .func (PySem.W.fnOf "is_moment" "is_moment" (defArgs sMoment) (defBody sMoment) (defScope sMoment) .none kVmoment dcmoment pmmoment anmoment cdmoment ctmoment), slmoment⟩)
    (cmoment : PySem.W.codeIn K cdmoment "is_moment" = true)
    (kmoment : PySem.W.keepIn K (.ref fmoment) = true)
    (aisname : PySem.W.nsIn K mainGlobals "is_name" = some (some (.ref fisname)))
    (lisname : K.lookup fisname = some ⟨ocisname, odisname, .func (PySem.W.fnOf "is_name" "is_name" (defArgs sName) (defBody sName) (defScope sName) .none kVisname dcisname pmisname anisname cdisname ctisname), slisname⟩)
    (cisname : PySem.W.codeIn K cdisname "is_name" = true)
    (kisname : PySem.W.keepIn K (.ref fisname) = true)
    (acheck : PySem.W.nsIn K mainGlobals "check_form" = some (some (.ref fcheck)))
    (lcheck : K.lookup fcheck = some ⟨occheck, odcheck, .func (PySem.W.fnOf "check_form" "check_form" (defArgs sCheck) (defBody sCheck) (defScope sCheck) .none kVcheck dccheck pmcheck ancheck cdcheck ctcheck), slcheck⟩)
    (ccheck : PySem.W.codeIn K cdcheck "check_form" = true)
    (kcheck : PySem.W.keepIn K (.ref fcheck) = true)
    (achecked : PySem.W.nsIn K mainGlobals "checked" = some (some (.ref fchecked)))
    (lchecked : K.lookup fchecked = some ⟨occhecked, odchecked, .func (PySem.W.fnOf "checked" "checked" (defArgs sChecked) (defBody sChecked) (defScope sChecked) .none kVchecked dcchecked pmchecked anchecked cdchecked ctchecked), slchecked⟩)
    (cchecked : PySem.W.codeIn K cdchecked "checked" = true)
    (kchecked : PySem.W.keepIn K (.ref fchecked) = true)
    (awithf : PySem.W.nsIn K mainGlobals "with_first" = some (some (.ref fwithf)))
    (lwithf : K.lookup fwithf = some ⟨ocwithf, odwithf, .func (PySem.W.fnOf "with_first" "with_first" (defArgs sWith) (defBody sWith) (defScope sWith) .none kVwithf dcwithf pmwithf anwithf cdwithf ctwithf), slwithf⟩)
    (cwithf : PySem.W.codeIn K cdwithf "with_first" = true)
    (kwithf : PySem.W.keepIn K (.ref fwithf) = true)
    (thn : PySem.W.specialIn K (.builtin "object.__class__") "__get__" = some (some (.builtin "getset_descriptor.__get__")))
    (tht : PySem.W.takesIn K (.builtin "object.__class__") = some true)
    (gR : PySem.W.nsIn K mainGlobals "Row" = some (some (.ref CR)))
    (icR : PySem.W.isClsIn K CR = true)
    (tyR : PySem.W.typeIn K (.ref CR) = some (.type "type"))
    (sbR : PySem.W.subIn K (.ref CR) (.ref CR) = some true)
    (aCY : PySem.W.nsIn K mainGlobals "Saying" = some (some (.ref CY)))
    (pgCY : PySem.W.plainGet K CY Str.empty = true)
    (hdCY : PySem.W.hasDictIn K CY = true)
    (poCY : PySem.W.plainOver K CY = true)
    (saCY : PySem.W.findIn K (.ref CY) "__setattr__" = some (some (.builtin "object.__setattr__")))
    (mkCY : PySem.W.makesIn K CY = true)
    (kcCY : PySem.W.keepIn K (.ref CY) = true)
    (nCY_tool : PySem.W.findIn K (.ref CY) "tool" = some none)
    (nCY_moment : PySem.W.findIn K (.ref CY) "moment" = some none)
    (nCY_is_sound : PySem.W.findIn K (.ref CY) "is_sound" = some none)
    (thaCY : PySem.W.findIn K (.ref CY) "__class__" = some (some (.builtin "object.__class__")))
    (thmCY : PySem.W.mroIn K CY (.type "object") = some true)
    (hclsCY : PySem.W.isClsIn K CY = true)
    (htypCY : PySem.W.typeIn K (.ref CY) = some (.type "type"))
    (asinit : PySem.W.findIn K (.ref CY) "__init__" = some (some (.ref fsinit)))
    (isinit : PySem.W.isFn K (.ref fsinit) = true)
    (lsinit : K.lookup fsinit = some ⟨ocsinit, odsinit, .func (PySem.W.fnOf "__init__" "Saying.__init__" (defArgs sInit) (defBody sInit) (defScope sInit) .none kVsinit dcsinit pmsinit ansinit cdsinit ctsinit), slsinit⟩)
    (csinit : PySem.W.codeIn K cdsinit "Saying.__init__" = true)
    (ksinit : PySem.W.keepIn K (.ref fsinit) = true)
    (asinv : PySem.W.findIn K (.ref CY) "__invert__" = some (some (.ref fsinv)))
    (isinv : PySem.W.isFn K (.ref fsinv) = true)
    (lsinv : K.lookup fsinv = some ⟨ocsinv, odsinv, .func (PySem.W.fnOf "__invert__" "Saying.__invert__" (defArgs sInv) (defBody sInv) (defScope sInv) .none kVsinv dcsinv pmsinv ansinv cdsinv ctsinv), slsinv⟩)
    (csinv : PySem.W.codeIn K cdsinv "Saying.__invert__" = true)
    (ksinv : PySem.W.keepIn K (.ref fsinv) = true)
    (aCV : PySem.W.nsIn K mainGlobals "Lives" = some (some (.ref CV)))
    (pgCV : PySem.W.plainGet K CV Str.empty = true)
    (hdCV : PySem.W.hasDictIn K CV = true)
    (poCV : PySem.W.plainOver K CV = true)
    (saCV : PySem.W.findIn K (.ref CV) "__setattr__" = some (some (.builtin "object.__setattr__")))
    (mkCV : PySem.W.makesIn K CV = true)
    (kcCV : PySem.W.keepIn K (.ref CV) = true)
    (nCV__begun : PySem.W.findIn K (.ref CV) "_begun" = some none)
    (thaCV : PySem.W.findIn K (.ref CV) "__class__" = some (some (.builtin "object.__class__")))
    (thmCV : PySem.W.mroIn K CV (.type "object") = some true)
    (hclsCV : PySem.W.isClsIn K CV = true)
    (htypCV : PySem.W.typeIn K (.ref CV) = some (.type "type"))
    (avinit : PySem.W.findIn K (.ref CV) "__init__" = some (some (.ref fvinit)))
    (ivinit : PySem.W.isFn K (.ref fvinit) = true)
    (lvinit : K.lookup fvinit = some ⟨ocvinit, odvinit, .func (PySem.W.fnOf "__init__" "Lives.__init__" (defArgs sLInit) (defBody sLInit) (defScope sLInit) .none kVvinit dcvinit pmvinit anvinit cdvinit ctvinit), slvinit⟩)
    (cvinit : PySem.W.codeIn K cdvinit "Lives.__init__" = true)
    (kvinit : PySem.W.keepIn K (.ref fvinit) = true)
    (avbeg : PySem.W.findIn K (.ref CV) "beginnings" = some (some (.ref fvbeg)))
    (ivbeg : PySem.W.isFn K (.ref fvbeg) = true)
    (lvbeg : K.lookup fvbeg = some ⟨ocvbeg, odvbeg, .func (PySem.W.fnOf "beginnings" "Lives.beginnings" (defArgs sBeg) (defBody sBeg) (defScope sBeg) .none kVvbeg dcvbeg pmvbeg anvbeg cdvbeg ctvbeg), slvbeg⟩)
    (cvbeg : PySem.W.codeIn K cdvbeg "Lives.beginnings" = true)
    (kvbeg : PySem.W.keepIn K (.ref fvbeg) = true)
    (avlast : PySem.W.findIn K (.ref CV) "last_of" = some (some (.ref fvlast)))
    (ivlast : PySem.W.isFn K (.ref fvlast) = true)
    (lvlast : K.lookup fvlast = some ⟨ocvlast, odvlast, .func (PySem.W.fnOf "last_of" "Lives.last_of" (defArgs sLast) (defBody sLast) (defScope sLast) .none kVvlast dcvlast pmvlast anvlast cdvlast ctvlast), slvlast⟩)
    (cvlast : PySem.W.codeIn K cdvlast "Lives.last_of" = true)
    (kvlast : PySem.W.keepIn K (.ref fvlast) = true)
    (avcont : PySem.W.findIn K (.ref CV) "__contains__" = some (some (.ref fvcont)))
    (ivcont : PySem.W.isFn K (.ref fvcont) = true)
    (lvcont : K.lookup fvcont = some ⟨ocvcont, odvcont, .func (PySem.W.fnOf "__contains__" "Lives.__contains__" (defArgs sCont) (defBody sCont) (defScope sCont) .none kVvcont dcvcont pmvcont anvcont cdvcont ctvcont), slvcont⟩)
    (cvcont : PySem.W.codeIn K cdvcont "Lives.__contains__" = true)
    (kvcont : PySem.W.keepIn K (.ref fvcont) = true)
    (avto : PySem.W.findIn K (.ref CV) "tools" = some (some (.ref pvto)))
    (gvto : PySem.W.specialIn K (.ref pvto) "__get__" = some (some (.builtin "property.__get__")))
    (tvto : PySem.W.takesIn K (.ref pvto) = some true)
    (rvto : PySem.W.recIn K pvto "property" = some (.ref fvto :: restvto))
    (lvto : K.lookup fvto = some ⟨ocvto, odvto, .func (PySem.W.fnOf "tools" "Lives.tools" (defArgs sLTools) (defBody sLTools) (defScope sLTools) .none kVvto dcvto pmvto anvto cdvto ctvto), slvto⟩)
    (cvto : PySem.W.codeIn K cdvto "Lives.tools" = true)
    (kvto : PySem.W.keepIn K (.ref fvto) = true)
    (aC_begun : PySem.W.nsIn K mainGlobals "Begun" = some (some (.ref C_begun)))
    (pgC_begun : PySem.W.plainGet K C_begun Str.empty = true)
    (hdC_begun : PySem.W.hasDictIn K C_begun = true)
    (poC_begun : PySem.W.plainOver K C_begun = true)
    (saC_begun : PySem.W.findIn K (.ref C_begun) "__setattr__" = some (some (.builtin "object.__setattr__")))
    (mkC_begun : PySem.W.makesIn K C_begun = true)
    (kcC_begun : PySem.W.keepIn K (.ref C_begun) = true)
    (nC_begun__told : PySem.W.findIn K (.ref C_begun) "_told" = some none)
    (nC_begun_kind : PySem.W.findIn K (.ref C_begun) "kind" = some none)
    (nC_begun_tool : PySem.W.findIn K (.ref C_begun) "tool" = some none)
    (nC_begun_moment : PySem.W.findIn K (.ref C_begun) "moment" = some none)
    (abegun : PySem.W.findIn K (.ref C_begun) "__init__" = some (some (.ref fbegun)))
    (ibegun : PySem.W.isFn K (.ref fbegun) = true)
    (lbegun : K.lookup fbegun = some ⟨ocbegun, odbegun, .func (PySem.W.fnOf "__init__" "Begun.__init__" (defArgs sBegun) (defBody sBegun) (defScope sBegun) .none kVbegun dcbegun pmbegun anbegun cdbegun ctbegun), slbegun⟩)
    (cbegun : PySem.W.codeIn K cdbegun "Begun.__init__" = true)
    (kbegun : PySem.W.keepIn K (.ref fbegun) = true)
    (thaC_begun : PySem.W.findIn K (.ref C_begun) "__class__" = some (some (.builtin "object.__class__")))
    (thmC_begun : PySem.W.mroIn K C_begun (.type "object") = some true)
    (artaC_begun : PySem.W.findIn K (.ref C_begun) "_told_as" = some (some (.ref frta)))
    (irta : PySem.W.isFn K (.ref frta) = true)
    (lrta : K.lookup frta = some ⟨ocrta, odrta, .func (PySem.W.fnOf "_told_as" "Row._told_as" (defArgs sToldAs) (defBody sToldAs) (defScope sToldAs) .none kVrta dcrta pmrta anrta cdrta ctrta), slrta⟩)
    (crta : PySem.W.codeIn K cdrta "Row._told_as" = true)
    (krta : PySem.W.keepIn K (.ref frta) = true)
    (arpaC_begun : PySem.W.findIn K (.ref C_begun) "pairs" = some (some (.ref frpa)))
    (irpa : PySem.W.isFn K (.ref frpa) = true)
    (lrpa : K.lookup frpa = some ⟨ocrpa, odrpa, .func (PySem.W.fnOf "pairs" "Row.pairs" (defArgs sPairs) (defBody sPairs) (defScope sPairs) .none kVrpa dcrpa pmrpa anrpa cdrpa ctrpa), slrpa⟩)
    (crpa : PySem.W.codeIn K cdrpa "Row.pairs" = true)
    (krpa : PySem.W.keepIn K (.ref frpa) = true)
    (aptoC_begun : PySem.W.findIn K (.ref C_begun) "tools" = some (some (.ref qpto)))
    (gpto : PySem.W.specialIn K (.ref qpto) "__get__" = some (some (.builtin "property.__get__")))
    (tpto : PySem.W.takesIn K (.ref qpto) = some true)
    (rpto : PySem.W.recIn K qpto "property" = some (.ref fpto :: restpto))
    (lpto : K.lookup fpto = some ⟨ocpto, odpto, .func (PySem.W.fnOf "tools" "Row.tools" (defArgs sTools) (defBody sTools) (defScope sTools) .none kVpto dcpto pmpto anpto cdpto ctpto), slpto⟩)
    (cpto : PySem.W.codeIn K cdpto "Row.tools" = true)
    (kpto : PySem.W.keepIn K (.ref fpto) = true)
    (sRC_begun : PySem.W.subIn K (.ref C_begun) (.ref CR) = some true)
    (aexbegun : PySem.W.findIn K (.ref C_begun) "_excluded" = some (some (.ref fexbegun)))
    (iexbegun : PySem.W.isFn K (.ref fexbegun) = true)
    (lexbegun : K.lookup fexbegun = some ⟨ocexbegun, odexbegun, .func (PySem.W.fnOf "_excluded" "Begun._excluded" (defArgs sXBegun) (defBody sXBegun) (defScope sXBegun) .none kVexbegun dcexbegun pmexbegun anexbegun cdexbegun ctexbegun), slexbegun⟩)
    (cexbegun : PySem.W.codeIn K cdexbegun "Begun._excluded" = true)
    (kexbegun : PySem.W.keepIn K (.ref fexbegun) = true)
    (aC_setby : PySem.W.nsIn K mainGlobals "SetBy" = some (some (.ref C_setby)))
    (pgC_setby : PySem.W.plainGet K C_setby Str.empty = true)
    (hdC_setby : PySem.W.hasDictIn K C_setby = true)
    (poC_setby : PySem.W.plainOver K C_setby = true)
    (saC_setby : PySem.W.findIn K (.ref C_setby) "__setattr__" = some (some (.builtin "object.__setattr__")))
    (mkC_setby : PySem.W.makesIn K C_setby = true)
    (kcC_setby : PySem.W.keepIn K (.ref C_setby) = true)
    (nC_setby__told : PySem.W.findIn K (.ref C_setby) "_told" = some none)
    (nC_setby_kind : PySem.W.findIn K (.ref C_setby) "kind" = some none)
    (nC_setby_tool : PySem.W.findIn K (.ref C_setby) "tool" = some none)
    (nC_setby_moment : PySem.W.findIn K (.ref C_setby) "moment" = some none)
    (nC_setby_by : PySem.W.findIn K (.ref C_setby) "by" = some none)
    (asetby : PySem.W.findIn K (.ref C_setby) "__init__" = some (some (.ref fsetby)))
    (isetby : PySem.W.isFn K (.ref fsetby) = true)
    (lsetby : K.lookup fsetby = some ⟨ocsetby, odsetby, .func (PySem.W.fnOf "__init__" "SetBy.__init__" (defArgs sSetBy) (defBody sSetBy) (defScope sSetBy) .none kVsetby dcsetby pmsetby ansetby cdsetby ctsetby), slsetby⟩)
    (csetby : PySem.W.codeIn K cdsetby "SetBy.__init__" = true)
    (ksetby : PySem.W.keepIn K (.ref fsetby) = true)
    (thaC_setby : PySem.W.findIn K (.ref C_setby) "__class__" = some (some (.builtin "object.__class__")))
    (thmC_setby : PySem.W.mroIn K C_setby (.type "object") = some true)
    (artaC_setby : PySem.W.findIn K (.ref C_setby) "_told_as" = some (some (.ref frta)))
    (arpaC_setby : PySem.W.findIn K (.ref C_setby) "pairs" = some (some (.ref frpa)))
    (aptoC_setby : PySem.W.findIn K (.ref C_setby) "tools" = some (some (.ref qpto)))
    (sRC_setby : PySem.W.subIn K (.ref C_setby) (.ref CR) = some true)
    (aexsetby : PySem.W.findIn K (.ref C_setby) "_excluded" = some (some (.ref fexsetby)))
    (iexsetby : PySem.W.isFn K (.ref fexsetby) = true)
    (lexsetby : K.lookup fexsetby = some ⟨ocexsetby, odexsetby, .func (PySem.W.fnOf "_excluded" "SetBy._excluded" (defArgs sXSetBy) (defBody sXSetBy) (defScope sXSetBy) .none kVexsetby dcexsetby pmexsetby anexsetby cdexsetby ctexsetby), slexsetby⟩)
    (cexsetby : PySem.W.codeIn K cdexsetby "SetBy._excluded" = true)
    (kexsetby : PySem.W.keepIn K (.ref fexsetby) = true)
    (aC_found : PySem.W.nsIn K mainGlobals "Found" = some (some (.ref C_found)))
    (pgC_found : PySem.W.plainGet K C_found Str.empty = true)
    (hdC_found : PySem.W.hasDictIn K C_found = true)
    (poC_found : PySem.W.plainOver K C_found = true)
    (saC_found : PySem.W.findIn K (.ref C_found) "__setattr__" = some (some (.builtin "object.__setattr__")))
    (mkC_found : PySem.W.makesIn K C_found = true)
    (kcC_found : PySem.W.keepIn K (.ref C_found) = true)
    (nC_found__told : PySem.W.findIn K (.ref C_found) "_told" = some none)
    (nC_found_kind : PySem.W.findIn K (.ref C_found) "kind" = some none)
    (nC_found_tool : PySem.W.findIn K (.ref C_found) "tool" = some none)
    (nC_found_moment : PySem.W.findIn K (.ref C_found) "moment" = some none)
    (nC_found_is_sound : PySem.W.findIn K (.ref C_found) "is_sound" = some none)
    (afound : PySem.W.findIn K (.ref C_found) "__init__" = some (some (.ref ffound)))
    (ifound : PySem.W.isFn K (.ref ffound) = true)
    (lfound : K.lookup ffound = some ⟨ocfound, odfound, .func (PySem.W.fnOf "__init__" "Found.__init__" (defArgs sFound) (defBody sFound) (defScope sFound) .none kVfound dcfound pmfound anfound cdfound ctfound), slfound⟩)
    (cfound : PySem.W.codeIn K cdfound "Found.__init__" = true)
    (kfound : PySem.W.keepIn K (.ref ffound) = true)
    (thaC_found : PySem.W.findIn K (.ref C_found) "__class__" = some (some (.builtin "object.__class__")))
    (thmC_found : PySem.W.mroIn K C_found (.type "object") = some true)
    (artaC_found : PySem.W.findIn K (.ref C_found) "_told_as" = some (some (.ref frta)))
    (arpaC_found : PySem.W.findIn K (.ref C_found) "pairs" = some (some (.ref frpa)))
    (aptoC_found : PySem.W.findIn K (.ref C_found) "tools" = some (some (.ref qpto)))
    (sRC_found : PySem.W.subIn K (.ref C_found) (.ref CR) = some true)
    (aexfound : PySem.W.findIn K (.ref C_found) "_excluded" = some (some (.ref fexfound)))
    (iexfound : PySem.W.isFn K (.ref fexfound) = true)
    (lexfound : K.lookup fexfound = some ⟨ocexfound, odexfound, .func (PySem.W.fnOf "_excluded" "Found._excluded" (defArgs sXFound) (defBody sXFound) (defScope sXFound) .none kVexfound dcexfound pmexfound anexfound cdexfound ctexfound), slexfound⟩)
    (cexfound : PySem.W.codeIn K cdexfound "Found._excluded" = true)
    (kexfound : PySem.W.keepIn K (.ref fexfound) = true)
    (aC_trusted : PySem.W.nsIn K mainGlobals "Trusted" = some (some (.ref C_trusted)))
    (pgC_trusted : PySem.W.plainGet K C_trusted Str.empty = true)
    (hdC_trusted : PySem.W.hasDictIn K C_trusted = true)
    (poC_trusted : PySem.W.plainOver K C_trusted = true)
    (saC_trusted : PySem.W.findIn K (.ref C_trusted) "__setattr__" = some (some (.builtin "object.__setattr__")))
    (mkC_trusted : PySem.W.makesIn K C_trusted = true)
    (kcC_trusted : PySem.W.keepIn K (.ref C_trusted) = true)
    (nC_trusted__told : PySem.W.findIn K (.ref C_trusted) "_told" = some none)
    (nC_trusted_kind : PySem.W.findIn K (.ref C_trusted) "kind" = some none)
    (nC_trusted_tool : PySem.W.findIn K (.ref C_trusted) "tool" = some none)
    (atrusted : PySem.W.findIn K (.ref C_trusted) "__init__" = some (some (.ref ftrusted)))
    (itrusted : PySem.W.isFn K (.ref ftrusted) = true)
    (ltrusted : K.lookup ftrusted = some ⟨octrusted, odtrusted, .func (PySem.W.fnOf "__init__" "Trusted.__init__" (defArgs sTrusted) (defBody sTrusted) (defScope sTrusted) .none kVtrusted dctrusted pmtrusted antrusted cdtrusted cttrusted), sltrusted⟩)
    (ctrusted : PySem.W.codeIn K cdtrusted "Trusted.__init__" = true)
    (ktrusted : PySem.W.keepIn K (.ref ftrusted) = true)
    (thaC_trusted : PySem.W.findIn K (.ref C_trusted) "__class__" = some (some (.builtin "object.__class__")))
    (thmC_trusted : PySem.W.mroIn K C_trusted (.type "object") = some true)
    (artaC_trusted : PySem.W.findIn K (.ref C_trusted) "_told_as" = some (some (.ref frta)))
    (arpaC_trusted : PySem.W.findIn K (.ref C_trusted) "pairs" = some (some (.ref frpa)))
    (aptoC_trusted : PySem.W.findIn K (.ref C_trusted) "tools" = some (some (.ref qpto)))
    (sRC_trusted : PySem.W.subIn K (.ref C_trusted) (.ref CR) = some true)
    (aextrusted : PySem.W.findIn K (.ref C_trusted) "_excluded" = some (some (.ref fextrusted)))
    (iextrusted : PySem.W.isFn K (.ref fextrusted) = true)
    (lextrusted : K.lookup fextrusted = some ⟨ocextrusted, odextrusted, .func (PySem.W.fnOf "_excluded" "Trusted._excluded" (defArgs sXTrusted) (defBody sXTrusted) (defScope sXTrusted) .none kVextrusted dcextrusted pmextrusted anextrusted cdextrusted ctextrusted), slextrusted⟩)
    (cextrusted : PySem.W.codeIn K cdextrusted "Trusted._excluded" = true)
    (kextrusted : PySem.W.keepIn K (.ref fextrusted) = true)
    (aC_passed : PySem.W.nsIn K mainGlobals "Passed" = some (some (.ref C_passed)))
    (pgC_passed : PySem.W.plainGet K C_passed Str.empty = true)
    (hdC_passed : PySem.W.hasDictIn K C_passed = true)
    (poC_passed : PySem.W.plainOver K C_passed = true)
    (saC_passed : PySem.W.findIn K (.ref C_passed) "__setattr__" = some (some (.builtin "object.__setattr__")))
    (mkC_passed : PySem.W.makesIn K C_passed = true)
    (kcC_passed : PySem.W.keepIn K (.ref C_passed) = true)
    (nC_passed__told : PySem.W.findIn K (.ref C_passed) "_told" = some none)
    (nC_passed_kind : PySem.W.findIn K (.ref C_passed) "kind" = some none)
    (nC_passed_tool : PySem.W.findIn K (.ref C_passed) "tool" = some none)
    (nC_passed_moment : PySem.W.findIn K (.ref C_passed) "moment" = some none)
    (nC_passed_by : PySem.W.findIn K (.ref C_passed) "by" = some none)
    (apassed : PySem.W.findIn K (.ref C_passed) "__init__" = some (some (.ref fpassed)))
    (ipassed : PySem.W.isFn K (.ref fpassed) = true)
    (lpassed : K.lookup fpassed = some ⟨ocpassed, odpassed, .func (PySem.W.fnOf "__init__" "Passed.__init__" (defArgs sPassed) (defBody sPassed) (defScope sPassed) .none kVpassed dcpassed pmpassed anpassed cdpassed ctpassed), slpassed⟩)
    (cpassed : PySem.W.codeIn K cdpassed "Passed.__init__" = true)
    (kpassed : PySem.W.keepIn K (.ref fpassed) = true)
    (thaC_passed : PySem.W.findIn K (.ref C_passed) "__class__" = some (some (.builtin "object.__class__")))
    (thmC_passed : PySem.W.mroIn K C_passed (.type "object") = some true)
    (artaC_passed : PySem.W.findIn K (.ref C_passed) "_told_as" = some (some (.ref frta)))
    (arpaC_passed : PySem.W.findIn K (.ref C_passed) "pairs" = some (some (.ref frpa)))
    (aptoC_passed : PySem.W.findIn K (.ref C_passed) "tools" = some (some (.ref qpto)))
    (sRC_passed : PySem.W.subIn K (.ref C_passed) (.ref CR) = some true)
    (aexpassed : PySem.W.findIn K (.ref C_passed) "_excluded" = some (some (.ref fexpassed)))
    (iexpassed : PySem.W.isFn K (.ref fexpassed) = true)
    (lexpassed : K.lookup fexpassed = some ⟨ocexpassed, odexpassed, .func (PySem.W.fnOf "_excluded" "Passed._excluded" (defArgs sXPassed) (defBody sXPassed) (defScope sXPassed) .none kVexpassed dcexpassed pmexpassed anexpassed cdexpassed ctexpassed), slexpassed⟩)
    (cexpassed : PySem.W.codeIn K cdexpassed "Passed._excluded" = true)
    (kexpassed : PySem.W.keepIn K (.ref fexpassed) = true)
    (aC_failed : PySem.W.nsIn K mainGlobals "Failed" = some (some (.ref C_failed)))
    (pgC_failed : PySem.W.plainGet K C_failed Str.empty = true)
    (hdC_failed : PySem.W.hasDictIn K C_failed = true)
    (poC_failed : PySem.W.plainOver K C_failed = true)
    (saC_failed : PySem.W.findIn K (.ref C_failed) "__setattr__" = some (some (.builtin "object.__setattr__")))
    (mkC_failed : PySem.W.makesIn K C_failed = true)
    (kcC_failed : PySem.W.keepIn K (.ref C_failed) = true)
    (nC_failed__told : PySem.W.findIn K (.ref C_failed) "_told" = some none)
    (nC_failed_kind : PySem.W.findIn K (.ref C_failed) "kind" = some none)
    (nC_failed_tool : PySem.W.findIn K (.ref C_failed) "tool" = some none)
    (nC_failed_moment : PySem.W.findIn K (.ref C_failed) "moment" = some none)
    (nC_failed_by : PySem.W.findIn K (.ref C_failed) "by" = some none)
    (afailed : PySem.W.findIn K (.ref C_failed) "__init__" = some (some (.ref ffailed)))
    (ifailed : PySem.W.isFn K (.ref ffailed) = true)
    (lfailed : K.lookup ffailed = some ⟨ocfailed, odfailed, .func (PySem.W.fnOf "__init__" "Failed.__init__" (defArgs sFailed) (defBody sFailed) (defScope sFailed) .none kVfailed dcfailed pmfailed anfailed cdfailed ctfailed), slfailed⟩)
    (cfailed : PySem.W.codeIn K cdfailed "Failed.__init__" = true)
    (kfailed : PySem.W.keepIn K (.ref ffailed) = true)
    (thaC_failed : PySem.W.findIn K (.ref C_failed) "__class__" = some (some (.builtin "object.__class__")))
    (thmC_failed : PySem.W.mroIn K C_failed (.type "object") = some true)
    (artaC_failed : PySem.W.findIn K (.ref C_failed) "_told_as" = some (some (.ref frta)))
    (arpaC_failed : PySem.W.findIn K (.ref C_failed) "pairs" = some (some (.ref frpa)))
    (aptoC_failed : PySem.W.findIn K (.ref C_failed) "tools" = some (some (.ref qpto)))
    (sRC_failed : PySem.W.subIn K (.ref C_failed) (.ref CR) = some true)
    (aexfailed : PySem.W.findIn K (.ref C_failed) "_excluded" = some (some (.ref fexfailed)))
    (iexfailed : PySem.W.isFn K (.ref fexfailed) = true)
    (lexfailed : K.lookup fexfailed = some ⟨ocexfailed, odexfailed, .func (PySem.W.fnOf "_excluded" "Failed._excluded" (defArgs sXFailed) (defBody sXFailed) (defScope sXFailed) .none kVexfailed dcexfailed pmexfailed anexfailed cdexfailed ctexfailed), slexfailed⟩)
    (cexfailed : PySem.W.codeIn K cdexfailed "Failed._excluded" = true)
    (kexfailed : PySem.W.keepIn K (.ref fexfailed) = true)
    (aC_agreed : PySem.W.nsIn K mainGlobals "Agreed" = some (some (.ref C_agreed)))
    (pgC_agreed : PySem.W.plainGet K C_agreed Str.empty = true)
    (hdC_agreed : PySem.W.hasDictIn K C_agreed = true)
    (poC_agreed : PySem.W.plainOver K C_agreed = true)
    (saC_agreed : PySem.W.findIn K (.ref C_agreed) "__setattr__" = some (some (.builtin "object.__setattr__")))
    (mkC_agreed : PySem.W.makesIn K C_agreed = true)
    (kcC_agreed : PySem.W.keepIn K (.ref C_agreed) = true)
    (nC_agreed__told : PySem.W.findIn K (.ref C_agreed) "_told" = some none)
    (nC_agreed_kind : PySem.W.findIn K (.ref C_agreed) "kind" = some none)
    (nC_agreed_one : PySem.W.findIn K (.ref C_agreed) "one" = some none)
    (nC_agreed_moment : PySem.W.findIn K (.ref C_agreed) "moment" = some none)
    (nC_agreed_other : PySem.W.findIn K (.ref C_agreed) "other" = some none)
    (nC_agreed_later : PySem.W.findIn K (.ref C_agreed) "later" = some none)
    (aagreed : PySem.W.findIn K (.ref C_agreed) "__init__" = some (some (.ref fagreed)))
    (iagreed : PySem.W.isFn K (.ref fagreed) = true)
    (lagreed : K.lookup fagreed = some ⟨ocagreed, odagreed, .func (PySem.W.ksFn "__init__" "Agreed.__init__" (defArgs sAgreed) (defBody sAgreed) (defScope sAgreed) .none kVagreed dcagreed pmagreed anagreed (.ref cdaagreed) ctagreed ccagreed), slagreed⟩)
    (cagreed : PySem.W.codeIn K (.ref cdaagreed) "Agreed.__init__" = true)
    (kagreed : PySem.W.keepIn K (.ref fagreed) = true)
    (eagreed : K.lookup ccagreed = some ⟨clagreed, cldagreed, .cell (some (.ref C_agreed)), cslagreed⟩)
    (dagreed : K.lookup cdaagreed = some ⟨cclagreed, cddagreed, .fields vsagreed, ccsagreed⟩)
    (vagreed : (vsagreed[2]? : Option Value) = some (.str fileagreed tfagreed))
    (wagreed : ((l.prog.main.file : Str) == fileagreed) = true)
    (yagreed : PySem.W.mroIn K C_agreed (.ref C_agreed) = some true)
    (zagreed : PySem.W.clsIn K C_agreed = some cd_agreed)
    (xagreed : PySem.W.ks_superIn K C_agreed C_agreed "__init__" = some (some (.ref fmeet)))
    (lmeet : K.lookup fmeet = some ⟨ocmeet, odmeet, .func (PySem.W.fnOf "__init__" "Meeting.__init__" (defArgs sMeeting) (defBody sMeeting) (defScope sMeeting) .none kVmeet dcmeet pmmeet anmeet cdmeet ctmeet), slmeet⟩)
    (cmeet : PySem.W.codeIn K cdmeet "Meeting.__init__" = true)
    (kmeet : PySem.W.keepIn K (.ref fmeet) = true)
    (tmeet : PySem.W.typeIn K (.ref fmeet) = some (.type "function"))
    (fnmeet : PySem.W.fnIn K fmeet = true)
    (thaC_agreed : PySem.W.findIn K (.ref C_agreed) "__class__" = some (some (.builtin "object.__class__")))
    (thmC_agreed : PySem.W.mroIn K C_agreed (.type "object") = some true)
    (artaC_agreed : PySem.W.findIn K (.ref C_agreed) "_told_as" = some (some (.ref frta)))
    (arpaC_agreed : PySem.W.findIn K (.ref C_agreed) "pairs" = some (some (.ref frpa)))
    (aptoC_agreed : PySem.W.findIn K (.ref C_agreed) "tools" = some (some (.ref qpto)))
    (sRC_agreed : PySem.W.subIn K (.ref C_agreed) (.ref CR) = some true)
    (aexagreed : PySem.W.findIn K (.ref C_agreed) "_excluded" = some (some (.ref fexagreed)))
    (iexagreed : PySem.W.isFn K (.ref fexagreed) = true)
    (lexagreed : K.lookup fexagreed = some ⟨ocexagreed, odexagreed, .func (PySem.W.fnOf "_excluded" "Agreed._excluded" (defArgs sXAgreed) (defBody sXAgreed) (defScope sXAgreed) .none kVexagreed dcexagreed pmexagreed anexagreed cdexagreed ctexagreed), slexagreed⟩)
    (cexagreed : PySem.W.codeIn K cdexagreed "Agreed._excluded" = true)
    (kexagreed : PySem.W.keepIn K (.ref fexagreed) = true)
    (aC_differed : PySem.W.nsIn K mainGlobals "Differed" = some (some (.ref C_differed)))
    (pgC_differed : PySem.W.plainGet K C_differed Str.empty = true)
    (hdC_differed : PySem.W.hasDictIn K C_differed = true)
    (poC_differed : PySem.W.plainOver K C_differed = true)
    (saC_differed : PySem.W.findIn K (.ref C_differed) "__setattr__" = some (some (.builtin "object.__setattr__")))
    (mkC_differed : PySem.W.makesIn K C_differed = true)
    (kcC_differed : PySem.W.keepIn K (.ref C_differed) = true)
    (nC_differed__told : PySem.W.findIn K (.ref C_differed) "_told" = some none)
    (nC_differed_kind : PySem.W.findIn K (.ref C_differed) "kind" = some none)
    (nC_differed_one : PySem.W.findIn K (.ref C_differed) "one" = some none)
    (nC_differed_moment : PySem.W.findIn K (.ref C_differed) "moment" = some none)
    (nC_differed_other : PySem.W.findIn K (.ref C_differed) "other" = some none)
    (nC_differed_later : PySem.W.findIn K (.ref C_differed) "later" = some none)
    (adiffered : PySem.W.findIn K (.ref C_differed) "__init__" = some (some (.ref fdiffered)))
    (idiffered : PySem.W.isFn K (.ref fdiffered) = true)
    (ldiffered : K.lookup fdiffered = some ⟨ocdiffered, oddiffered, .func (PySem.W.ksFn "__init__" "Differed.__init__" (defArgs sDiffered) (defBody sDiffered) (defScope sDiffered) .none kVdiffered dcdiffered pmdiffered andiffered (.ref cdadiffered) ctdiffered ccdiffered), sldiffered⟩)
    (cdiffered : PySem.W.codeIn K (.ref cdadiffered) "Differed.__init__" = true)
    (kdiffered : PySem.W.keepIn K (.ref fdiffered) = true)
    (ediffered : K.lookup ccdiffered = some ⟨cldiffered, clddiffered, .cell (some (.ref C_differed)), csldiffered⟩)
    (ddiffered : K.lookup cdadiffered = some ⟨ccldiffered, cdddiffered, .fields vsdiffered, ccsdiffered⟩)
    (vdiffered : (vsdiffered[2]? : Option Value) = some (.str filediffered tfdiffered))
    (wdiffered : ((l.prog.main.file : Str) == filediffered) = true)
    (ydiffered : PySem.W.mroIn K C_differed (.ref C_differed) = some true)
    (zdiffered : PySem.W.clsIn K C_differed = some cd_differed)
    (xdiffered : PySem.W.ks_superIn K C_differed C_differed "__init__" = some (some (.ref fmeet)))
    (thaC_differed : PySem.W.findIn K (.ref C_differed) "__class__" = some (some (.builtin "object.__class__")))
    (thmC_differed : PySem.W.mroIn K C_differed (.type "object") = some true)
    (artaC_differed : PySem.W.findIn K (.ref C_differed) "_told_as" = some (some (.ref frta)))
    (arpaC_differed : PySem.W.findIn K (.ref C_differed) "pairs" = some (some (.ref frpa)))
    (aptoC_differed : PySem.W.findIn K (.ref C_differed) "tools" = some (some (.ref qpto)))
    (sRC_differed : PySem.W.subIn K (.ref C_differed) (.ref CR) = some true)
    (aexdiffered : PySem.W.findIn K (.ref C_differed) "_excluded" = some (some (.ref fexdiffered)))
    (iexdiffered : PySem.W.isFn K (.ref fexdiffered) = true)
    (lexdiffered : K.lookup fexdiffered = some ⟨ocexdiffered, odexdiffered, .func (PySem.W.fnOf "_excluded" "Differed._excluded" (defArgs sXDiffered) (defBody sXDiffered) (defScope sXDiffered) .none kVexdiffered dcexdiffered pmexdiffered anexdiffered cdexdiffered ctexdiffered), slexdiffered⟩)
    (cexdiffered : PySem.W.codeIn K cdexdiffered "Differed._excluded" = true)
    (kexdiffered : PySem.W.keepIn K (.ref fexdiffered) = true)
    (aC_served : PySem.W.nsIn K mainGlobals "Served" = some (some (.ref C_served)))
    (pgC_served : PySem.W.plainGet K C_served Str.empty = true)
    (hdC_served : PySem.W.hasDictIn K C_served = true)
    (poC_served : PySem.W.plainOver K C_served = true)
    (saC_served : PySem.W.findIn K (.ref C_served) "__setattr__" = some (some (.builtin "object.__setattr__")))
    (mkC_served : PySem.W.makesIn K C_served = true)
    (kcC_served : PySem.W.keepIn K (.ref C_served) = true)
    (nC_served__told : PySem.W.findIn K (.ref C_served) "_told" = some none)
    (nC_served_kind : PySem.W.findIn K (.ref C_served) "kind" = some none)
    (nC_served_one : PySem.W.findIn K (.ref C_served) "one" = some none)
    (nC_served_moment : PySem.W.findIn K (.ref C_served) "moment" = some none)
    (nC_served_other : PySem.W.findIn K (.ref C_served) "other" = some none)
    (nC_served_later : PySem.W.findIn K (.ref C_served) "later" = some none)
    (aserved : PySem.W.findIn K (.ref C_served) "__init__" = some (some (.ref fserved)))
    (iserved : PySem.W.isFn K (.ref fserved) = true)
    (lserved : K.lookup fserved = some ⟨ocserved, odserved, .func (PySem.W.ksFn "__init__" "Served.__init__" (defArgs sServed) (defBody sServed) (defScope sServed) .none kVserved dcserved pmserved anserved (.ref cdaserved) ctserved ccserved), slserved⟩)
    (cserved : PySem.W.codeIn K (.ref cdaserved) "Served.__init__" = true)
    (kserved : PySem.W.keepIn K (.ref fserved) = true)
    (eserved : K.lookup ccserved = some ⟨clserved, cldserved, .cell (some (.ref C_served)), cslserved⟩)
    (dserved : K.lookup cdaserved = some ⟨cclserved, cddserved, .fields vsserved, ccsserved⟩)
    (vserved : (vsserved[2]? : Option Value) = some (.str fileserved tfserved))
    (wserved : ((l.prog.main.file : Str) == fileserved) = true)
    (yserved : PySem.W.mroIn K C_served (.ref C_served) = some true)
    (zserved : PySem.W.clsIn K C_served = some cd_served)
    (xserved : PySem.W.ks_superIn K C_served C_served "__init__" = some (some (.ref fmeet)))
    (thaC_served : PySem.W.findIn K (.ref C_served) "__class__" = some (some (.builtin "object.__class__")))
    (thmC_served : PySem.W.mroIn K C_served (.type "object") = some true)
    (artaC_served : PySem.W.findIn K (.ref C_served) "_told_as" = some (some (.ref frta)))
    (arpaC_served : PySem.W.findIn K (.ref C_served) "pairs" = some (some (.ref frpa)))
    (aptoC_served : PySem.W.findIn K (.ref C_served) "tools" = some (some (.ref qpto)))
    (sRC_served : PySem.W.subIn K (.ref C_served) (.ref CR) = some true)
    (aexserved : PySem.W.findIn K (.ref C_served) "_excluded" = some (some (.ref fexserved)))
    (iexserved : PySem.W.isFn K (.ref fexserved) = true)
    (lexserved : K.lookup fexserved = some ⟨ocexserved, odexserved, .func (PySem.W.fnOf "_excluded" "Served._excluded" (defArgs sXServed) (defBody sXServed) (defScope sXServed) .none kVexserved dcexserved pmexserved anexserved cdexserved ctexserved), slexserved⟩)
    (cexserved : PySem.W.codeIn K cdexserved "Served._excluded" = true)
    (kexserved : PySem.W.keepIn K (.ref fexserved) = true)
    (aC_backed : PySem.W.nsIn K mainGlobals "Backed" = some (some (.ref C_backed)))
    (pgC_backed : PySem.W.plainGet K C_backed Str.empty = true)
    (hdC_backed : PySem.W.hasDictIn K C_backed = true)
    (poC_backed : PySem.W.plainOver K C_backed = true)
    (saC_backed : PySem.W.findIn K (.ref C_backed) "__setattr__" = some (some (.builtin "object.__setattr__")))
    (mkC_backed : PySem.W.makesIn K C_backed = true)
    (kcC_backed : PySem.W.keepIn K (.ref C_backed) = true)
    (nC_backed__told : PySem.W.findIn K (.ref C_backed) "_told" = some none)
    (nC_backed_kind : PySem.W.findIn K (.ref C_backed) "kind" = some none)
    (nC_backed_one : PySem.W.findIn K (.ref C_backed) "one" = some none)
    (nC_backed_moment : PySem.W.findIn K (.ref C_backed) "moment" = some none)
    (nC_backed_other : PySem.W.findIn K (.ref C_backed) "other" = some none)
    (nC_backed_later : PySem.W.findIn K (.ref C_backed) "later" = some none)
    (abacked : PySem.W.findIn K (.ref C_backed) "__init__" = some (some (.ref fbacked)))
    (ibacked : PySem.W.isFn K (.ref fbacked) = true)
    (lbacked : K.lookup fbacked = some ⟨ocbacked, odbacked, .func (PySem.W.ksFn "__init__" "Backed.__init__" (defArgs sBacked) (defBody sBacked) (defScope sBacked) .none kVbacked dcbacked pmbacked anbacked (.ref cdabacked) ctbacked ccbacked), slbacked⟩)
    (cbacked : PySem.W.codeIn K (.ref cdabacked) "Backed.__init__" = true)
    (kbacked : PySem.W.keepIn K (.ref fbacked) = true)
    (ebacked : K.lookup ccbacked = some ⟨clbacked, cldbacked, .cell (some (.ref C_backed)), cslbacked⟩)
    (dbacked : K.lookup cdabacked = some ⟨cclbacked, cddbacked, .fields vsbacked, ccsbacked⟩)
    (vbacked : (vsbacked[2]? : Option Value) = some (.str filebacked tfbacked))
    (wbacked : ((l.prog.main.file : Str) == filebacked) = true)
    (ybacked : PySem.W.mroIn K C_backed (.ref C_backed) = some true)
    (zbacked : PySem.W.clsIn K C_backed = some cd_backed)
    (xbacked : PySem.W.ks_superIn K C_backed C_backed "__init__" = some (some (.ref fmeet)))
    (thaC_backed : PySem.W.findIn K (.ref C_backed) "__class__" = some (some (.builtin "object.__class__")))
    (thmC_backed : PySem.W.mroIn K C_backed (.type "object") = some true)
    (artaC_backed : PySem.W.findIn K (.ref C_backed) "_told_as" = some (some (.ref frta)))
    (arpaC_backed : PySem.W.findIn K (.ref C_backed) "pairs" = some (some (.ref frpa)))
    (aptoC_backed : PySem.W.findIn K (.ref C_backed) "tools" = some (some (.ref qpto)))
    (sRC_backed : PySem.W.subIn K (.ref C_backed) (.ref CR) = some true)
    (aexbacked : PySem.W.findIn K (.ref C_backed) "_excluded" = some (some (.ref fexbacked)))
    (iexbacked : PySem.W.isFn K (.ref fexbacked) = true)
    (lexbacked : K.lookup fexbacked = some ⟨ocexbacked, odexbacked, .func (PySem.W.fnOf "_excluded" "Backed._excluded" (defArgs sXBacked) (defBody sXBacked) (defScope sXBacked) .none kVexbacked dcexbacked pmexbacked anexbacked cdexbacked ctexbacked), slexbacked⟩)
    (cexbacked : PySem.W.codeIn K cdexbacked "Backed._excluded" = true)
    (kexbacked : PySem.W.keepIn K (.ref fexbacked) = true)
    (opq : PySem.W.nsIn K PySem.cStatics "thirdparty.any" = some none)
    (tops : (l.prog.main.scope.names.lookup ("super" : Str)).isSome = false)
    (gG : PySem.W.nsIn K mainGlobals "GREATEST" = some (some (.int 1000000000000000000000000000000 tG)))
    (gL : PySem.W.nsIn K mainGlobals "LONGEST_NAME" = some (some (.int 8 tL)))
    (gA : PySem.W.nsIn K mainGlobals "LETTERS" = some (some (.str letters tA)))
    (gD : PySem.W.nsIn K mainGlobals "DIGITS" = some (some (.str digits tD)))
    (gN : PySem.W.nsIn K mainGlobals "NO_NAMES" = some (some (.ref aNo)))
    (lN : K.lookup aNo = some ⟨.type "tuple", odN, .seq itsN nN, slN⟩)
    (vN : itsN.toList.map strOf? = noNames.map some)
    (gF : PySem.W.nsIn K mainGlobals "FORMS" = some (some (.ref aF)))
    (lF : K.lookup aF = some ⟨.type "dict", none, .dict esF nF, #[]⟩)
    (klF : PySem.W.KeysLit w.params esF.toList)
    (gtbegun : PySem.W.nsIn K aF "begun" = some (some (.ref t_begun)))
    (ltbegun : K.lookup t_begun = some ⟨.type "tuple", odtbegun, .seq itsbegun ntbegun, sltbegun⟩)
    (vtbegun : itsbegun.toList.map strOf? = (formsOf "begun").map some)
    (gtsetby : PySem.W.nsIn K aF "setby" = some (some (.ref t_setby)))
    (ltsetby : K.lookup t_setby = some ⟨.type "tuple", odtsetby, .seq itssetby ntsetby, sltsetby⟩)
    (vtsetby : itssetby.toList.map strOf? = (formsOf "setby").map some)
    (gtfound : PySem.W.nsIn K aF "found" = some (some (.ref t_found)))
    (ltfound : K.lookup t_found = some ⟨.type "tuple", odtfound, .seq itsfound ntfound, sltfound⟩)
    (vtfound : itsfound.toList.map strOf? = (formsOf "found").map some)
    (gttrusted : PySem.W.nsIn K aF "trusted" = some (some (.ref t_trusted)))
    (lttrusted : K.lookup t_trusted = some ⟨.type "tuple", odttrusted, .seq itstrusted nttrusted, slttrusted⟩)
    (vttrusted : itstrusted.toList.map strOf? = (formsOf "trusted").map some)
    (gtpassed : PySem.W.nsIn K aF "passed" = some (some (.ref t_passed)))
    (ltpassed : K.lookup t_passed = some ⟨.type "tuple", odtpassed, .seq itspassed ntpassed, sltpassed⟩)
    (vtpassed : itspassed.toList.map strOf? = (formsOf "passed").map some)
    (gtfailed : PySem.W.nsIn K aF "failed" = some (some (.ref t_failed)))
    (ltfailed : K.lookup t_failed = some ⟨.type "tuple", odtfailed, .seq itsfailed ntfailed, sltfailed⟩)
    (vtfailed : itsfailed.toList.map strOf? = (formsOf "failed").map some)
    (gtagreed : PySem.W.nsIn K aF "agreed" = some (some (.ref t_agreed)))
    (ltagreed : K.lookup t_agreed = some ⟨.type "tuple", odtagreed, .seq itsagreed ntagreed, sltagreed⟩)
    (vtagreed : itsagreed.toList.map strOf? = (formsOf "agreed").map some)
    (gtdiffered : PySem.W.nsIn K aF "differed" = some (some (.ref t_differed)))
    (ltdiffered : K.lookup t_differed = some ⟨.type "tuple", odtdiffered, .seq itsdiffered ntdiffered, sltdiffered⟩)
    (vtdiffered : itsdiffered.toList.map strOf? = (formsOf "differed").map some)
    (gtserved : PySem.W.nsIn K aF "served" = some (some (.ref t_served)))
    (ltserved : K.lookup t_served = some ⟨.type "tuple", odtserved, .seq itsserved ntserved, sltserved⟩)
    (vtserved : itsserved.toList.map strOf? = (formsOf "served").map some)
    (gtbacked : PySem.W.nsIn K aF "backed" = some (some (.ref t_backed)))
    (ltbacked : K.lookup t_backed = some ⟨.type "tuple", odtbacked, .seq itsbacked ntbacked, sltbacked⟩)
    (vtbacked : itsbacked.toList.map strOf? = (formsOf "backed").map some)
    (b_isinstance : PySem.W.nsIn K mainGlobals "isinstance" = some none)
    (b_int : PySem.W.nsIn K mainGlobals "int" = some none)
    (b_bool : PySem.W.nsIn K mainGlobals "bool" = some none)
    (b_str : PySem.W.nsIn K mainGlobals "str" = some none)
    (b_len : PySem.W.nsIn K mainGlobals "len" = some none)
    (b_all : PySem.W.nsIn K mainGlobals "all" = some none)
    (b_list : PySem.W.nsIn K mainGlobals "list" = some none)
    (b_tuple : PySem.W.nsIn K mainGlobals "tuple" = some none)
    (b_abs : PySem.W.nsIn K mainGlobals "abs" = some none)
    (b_repr : PySem.W.nsIn K mainGlobals "repr" = some none)
    (b_zip : PySem.W.nsIn K mainGlobals "zip" = some none)
    (b_ValueError : PySem.W.nsIn K mainGlobals "ValueError" = some none)
    (b_super : PySem.W.nsIn K mainGlobals "super" = some none)
    (b_range : PySem.W.nsIn K mainGlobals "range" = some none)
    (b_sorted : PySem.W.nsIn K mainGlobals "sorted" = some none)
    (b_set : PySem.W.nsIn K mainGlobals "set" = some none)
    (b_max : PySem.W.nsIn K mainGlobals "max" = some none)
    (b_min : PySem.W.nsIn K mainGlobals "min" = some none)
    (b_dict : PySem.W.nsIn K mainGlobals "dict" = some none)
    (aT : PySem.W.nsIn K mainGlobals "TillError" = some (some (.ref CT)))
    (iT : PySem.W.isClsIn K CT = true)
    (tT : PySem.W.typeIn K (.ref CT) = some (.type "type"))
    (eT : PySem.W.subIn K (.ref CT) (.type "BaseException") = some true)
    (sT : PySem.W.subIn K (.ref CT) (.ref CT) = some true)
    (aN : PySem.W.nsIn K mainGlobals "BadName" = some (some (.ref CN)))
    (xN : K.lookup CN = some (excClassObj nmN qN CN NN bsN [.ref CT, .type "ValueError", .type "Exception", .type "BaseException", .type "object"] true snN subN abN colN ddN m0N m1N m2N m3N m5N "ValueError.__new__"))
    (seN : PySem.W.findIn K (.ref CN) "__setattr__" = some (some (.builtin "object.__setattr__")))
    (geN : PySem.W.findIn K (.ref CN) "__getattribute__" = some (some (.builtin "BaseException.__getattribute__")))
    (heN : PySem.W.findIn K (.ref CN) "__getattr__" = some none)
    (neN : PySem.W.findIn K (.ref CN) "name" = some none)
    (aeN : PySem.W.findIn K (.ref CN) "__init__" = some (some (.ref feN)))
    (teN : PySem.W.typeIn K (.ref feN) = some (.type "function"))
    (leN : K.lookup feN = some ⟨oceN, odeN, .func (PySem.W.fnOf "__init__" "BadName.__init__" (defArgs sEN) (defBody sEN) (defScope sEN) .none kVeN dceN pmeN aneN cdeN cteN), sleN⟩)
    (ceN : PySem.W.codeIn K cdeN "BadName.__init__" = true)
    (keN : PySem.W.keepIn K (.ref feN) = true)
    (kkeN : PySem.W.keepIn K (.ref CN) = true)
    (exeN : PySem.W.subIn K (.ref CN) (.type "BaseException") = some true)
    (tyeN : PySem.W.typeIn K (.ref CN) = some (.type "type"))
    (hdeN : PySem.W.hasDictIn K CN = true)
    (iceN : PySem.W.isClsIn K CN = true)
    (veeN : PySem.W.subIn K (.ref CN) (.type "ValueError") = some true)
    (uteN : PySem.W.subIn K (.ref CN) (.ref CT) = some true)
    (caeN : PySem.W.findIn K (.ref CN) "__class__" = some (some (.builtin "object.__class__")))
    (cmeN : PySem.W.mroIn K CN (.type "object") = some true)
    (aM : PySem.W.nsIn K mainGlobals "BadMoment" = some (some (.ref CM)))
    (xM : K.lookup CM = some (excClassObj nmM qM CM NM bsM [.ref CT, .type "ValueError", .type "Exception", .type "BaseException", .type "object"] true snM subM abM colM ddM m0M m1M m2M m3M m5M "ValueError.__new__"))
    (seM : PySem.W.findIn K (.ref CM) "__setattr__" = some (some (.builtin "object.__setattr__")))
    (geM : PySem.W.findIn K (.ref CM) "__getattribute__" = some (some (.builtin "BaseException.__getattribute__")))
    (heM : PySem.W.findIn K (.ref CM) "__getattr__" = some none)
    (neM : PySem.W.findIn K (.ref CM) "moment" = some none)
    (aeM : PySem.W.findIn K (.ref CM) "__init__" = some (some (.ref feM)))
    (teM : PySem.W.typeIn K (.ref feM) = some (.type "function"))
    (leM : K.lookup feM = some ⟨oceM, odeM, .func (PySem.W.fnOf "__init__" "BadMoment.__init__" (defArgs sEM) (defBody sEM) (defScope sEM) .none kVeM dceM pmeM aneM cdeM cteM), sleM⟩)
    (ceM : PySem.W.codeIn K cdeM "BadMoment.__init__" = true)
    (keM : PySem.W.keepIn K (.ref feM) = true)
    (kkeM : PySem.W.keepIn K (.ref CM) = true)
    (exeM : PySem.W.subIn K (.ref CM) (.type "BaseException") = some true)
    (tyeM : PySem.W.typeIn K (.ref CM) = some (.type "type"))
    (hdeM : PySem.W.hasDictIn K CM = true)
    (iceM : PySem.W.isClsIn K CM = true)
    (veeM : PySem.W.subIn K (.ref CM) (.type "ValueError") = some true)
    (uteM : PySem.W.subIn K (.ref CM) (.ref CT) = some true)
    (caeM : PySem.W.findIn K (.ref CM) "__class__" = some (some (.builtin "object.__class__")))
    (cmeM : PySem.W.mroIn K CM (.type "object") = some true)
    (aS : PySem.W.nsIn K mainGlobals "BadSaying" = some (some (.ref CS)))
    (xS : K.lookup CS = some (excClassObj nmS qS CS NS bsS [.ref CT, .type "ValueError", .type "Exception", .type "BaseException", .type "object"] true snS subS abS colS ddS m0S m1S m2S m3S m5S "ValueError.__new__"))
    (seS : PySem.W.findIn K (.ref CS) "__setattr__" = some (some (.builtin "object.__setattr__")))
    (geS : PySem.W.findIn K (.ref CS) "__getattribute__" = some (some (.builtin "BaseException.__getattribute__")))
    (heS : PySem.W.findIn K (.ref CS) "__getattr__" = some none)
    (neS : PySem.W.findIn K (.ref CS) "value" = some none)
    (aeS : PySem.W.findIn K (.ref CS) "__init__" = some (some (.ref feS)))
    (teS : PySem.W.typeIn K (.ref feS) = some (.type "function"))
    (leS : K.lookup feS = some ⟨oceS, odeS, .func (PySem.W.fnOf "__init__" "BadSaying.__init__" (defArgs sES) (defBody sES) (defScope sES) .none kVeS dceS pmeS aneS cdeS cteS), sleS⟩)
    (ceS : PySem.W.codeIn K cdeS "BadSaying.__init__" = true)
    (keS : PySem.W.keepIn K (.ref feS) = true)
    (kkeS : PySem.W.keepIn K (.ref CS) = true)
    (exeS : PySem.W.subIn K (.ref CS) (.type "BaseException") = some true)
    (tyeS : PySem.W.typeIn K (.ref CS) = some (.type "type"))
    (hdeS : PySem.W.hasDictIn K CS = true)
    (iceS : PySem.W.isClsIn K CS = true)
    (veeS : PySem.W.subIn K (.ref CS) (.type "ValueError") = some true)
    (uteS : PySem.W.subIn K (.ref CS) (.ref CT) = some true)
    (caeS : PySem.W.findIn K (.ref CS) "__class__" = some (some (.builtin "object.__class__")))
    (cmeS : PySem.W.mroIn K CS (.type "object") = some true)
    (aO : PySem.W.nsIn K mainGlobals "NoTool" = some (some (.ref CO)))
    (xO : K.lookup CO = some (excClassObj nmO qO CO NO bsO [.ref CT, .type "ValueError", .type "Exception", .type "BaseException", .type "object"] true snO subO abO colO ddO m0O m1O m2O m3O m5O "ValueError.__new__"))
    (seO : PySem.W.findIn K (.ref CO) "__setattr__" = some (some (.builtin "object.__setattr__")))
    (geO : PySem.W.findIn K (.ref CO) "__getattribute__" = some (some (.builtin "BaseException.__getattribute__")))
    (heO : PySem.W.findIn K (.ref CO) "__getattr__" = some none)
    (neO : PySem.W.findIn K (.ref CO) "tool" = some none)
    (aeO : PySem.W.findIn K (.ref CO) "__init__" = some (some (.ref feO)))
    (teO : PySem.W.typeIn K (.ref feO) = some (.type "function"))
    (leO : K.lookup feO = some ⟨oceO, odeO, .func (PySem.W.fnOf "__init__" "NoTool.__init__" (defArgs sET) (defBody sET) (defScope sET) .none kVeO dceO pmeO aneO cdeO cteO), sleO⟩)
    (ceO : PySem.W.codeIn K cdeO "NoTool.__init__" = true)
    (keO : PySem.W.keepIn K (.ref feO) = true)
    (kkeO : PySem.W.keepIn K (.ref CO) = true)
    (exeO : PySem.W.subIn K (.ref CO) (.type "BaseException") = some true)
    (tyeO : PySem.W.typeIn K (.ref CO) = some (.type "type"))
    (hdeO : PySem.W.hasDictIn K CO = true)
    (iceO : PySem.W.isClsIn K CO = true)
    (veeO : PySem.W.subIn K (.ref CO) (.type "ValueError") = some true)
    (uteO : PySem.W.subIn K (.ref CO) (.ref CT) = some true)
    (caeO : PySem.W.findIn K (.ref CO) "__class__" = some (some (.builtin "object.__class__")))
    (cmeO : PySem.W.mroIn K CO (.type "object") = some true)
    (aL : PySem.W.nsIn K mainGlobals "NoLife" = some (some (.ref CL)))
    (xL : K.lookup CL = some (excClassObj nmL qL CL NL bsL [.ref CT, .type "ValueError", .type "Exception", .type "BaseException", .type "object"] true snL subL abL colL ddL m0L m1L m2L m3L m5L "ValueError.__new__"))
    (seL : PySem.W.findIn K (.ref CL) "__setattr__" = some (some (.builtin "object.__setattr__")))
    (geL : PySem.W.findIn K (.ref CL) "__getattribute__" = some (some (.builtin "BaseException.__getattribute__")))
    (heL : PySem.W.findIn K (.ref CL) "__getattr__" = some none)
    (neL : PySem.W.findIn K (.ref CL) "value" = some none)
    (aeL : PySem.W.findIn K (.ref CL) "__init__" = some (some (.ref feL)))
    (teL : PySem.W.typeIn K (.ref feL) = some (.type "function"))
    (leL : K.lookup feL = some ⟨oceL, odeL, .func (PySem.W.fnOf "__init__" "NoLife.__init__" (defArgs sEL) (defBody sEL) (defScope sEL) .none kVeL dceL pmeL aneL cdeL cteL), sleL⟩)
    (ceL : PySem.W.codeIn K cdeL "NoLife.__init__" = true)
    (keL : PySem.W.keepIn K (.ref feL) = true)
    (kkeL : PySem.W.keepIn K (.ref CL) = true)
    (exeL : PySem.W.subIn K (.ref CL) (.type "BaseException") = some true)
    (tyeL : PySem.W.typeIn K (.ref CL) = some (.type "type"))
    (hdeL : PySem.W.hasDictIn K CL = true)
    (iceL : PySem.W.isClsIn K CL = true)
    (veeL : PySem.W.subIn K (.ref CL) (.type "ValueError") = some true)
    (uteL : PySem.W.subIn K (.ref CL) (.ref CT) = some true)
    (caeL : PySem.W.findIn K (.ref CL) "__class__" = some (some (.builtin "object.__class__")))
    (cmeL : PySem.W.mroIn K CL (.type "object") = some true)
    (uNN : PySem.W.subIn K (.ref CN) (.ref CN) = some true)
    (uNM : PySem.W.subIn K (.ref CN) (.ref CM) = some false)
    (uNO : PySem.W.subIn K (.ref CN) (.ref CO) = some false)
    (uMN : PySem.W.subIn K (.ref CM) (.ref CN) = some false)
    (uMM : PySem.W.subIn K (.ref CM) (.ref CM) = some true)
    (uMO : PySem.W.subIn K (.ref CM) (.ref CO) = some false)
    (uON : PySem.W.subIn K (.ref CO) (.ref CN) = some false)
    (uOM : PySem.W.subIn K (.ref CO) (.ref CM) = some false)
    (uOO : PySem.W.subIn K (.ref CO) (.ref CO) = some true)
    (lclaw : K.lookup c_law = some ⟨occlaw, odclaw, .fields vslaw, slclaw⟩)
    (vclaw : (vslaw[11]? : Option Value) = some (.ref P_law))
    (nTlaw : K.lookup P_law = none)
    : ∃ (fd : FuncData) (c1 P1 : Addr), PySem.W.tabIn K "law" = some (c1, P1) ∧ K.lookup P1 = none ∧ (∀ (s : Shared) (v : Value), BindsTo s fd ⟨[v], []⟩ [("_law_script", v)]) ∧
      ∀ base : Heap, K.In base → base.Ns mainGlobals mg → (∀ q ∈ [(c1, P1)], TabB base mg q.1 q.2) → FnG l.prog w K mg base CX0 13 fa fd ["_law_script"] (spLaw K (T1 P1)) := by
  have e := hfa.symm.trans (PySem.W.mg_of X G alaw)
  cases e
  have g1 := fun {n : Str} {v : Value} (e : PySem.W.nsIn K mainGlobals n = some (some v)) => PySem.W.mg_of X G e
  have g0 := fun {n : Str} (e : PySem.W.nsIn K mainGlobals n = some none) => PySem.W.mg_none_of X G e
  have F_pen := fun_mk (st := sPen) lpen cpen kpen
  have F_draw := fun_mk (st := sDraw) ldraw cdraw kdraw
  have F_pick := fun_mk (st := sPick) lpick cpick kpick
  have F_tick := fun_mk (st := sTick) ltick ctick ktick
  have F_lkinds := fun_mk (st := sKinds) llkinds clkinds klkinds
  have F_drawn := fun_mk (st := sDrawn) ldrawn cdrawn kdrawn
  have F_crew := fun_mk (st := sCrew) lcrew ccrew kcrew
  have F_named := fun_mk (st := sNamed) lnamed cnamed knamed
  have F_lmade := fun_mk (st := sMade) llmade clmade klmade
  have F_lasts := fun_mk (st := sLasts) llasts clasts klasts
  have F_lpairs := fun_mk (st := sPairsL) llpairs clpairs klpairs
  have F_heard := fun_mk (st := sHeard) lheard cheard kheard
  have F_lstarts := fun_mk (st := sStarts) llstarts clstarts klstarts
  have F_ltold := fun_mk (st := sToldL) lltold cltold kltold
  have F_law := fun_mk (st := sLaw) llaw claw klaw
  have F_whole := fun_mk (st := sWhole) lwhole cwhole kwhole
  have F_moment := fun_mk (st := sMoment) lmoment cmoment kmoment
  have F_isname := fun_mk (st := sName) lisname cisname kisname
  have F_check := fun_mk (st := sCheck) lcheck ccheck kcheck
  have F_checked := fun_mk (st := sChecked) lchecked cchecked kchecked
  have F_withf := fun_mk (st := sWith) lwithf cwithf kwithf
  have F_sinit := fun_mk (st := sInit) lsinit csinit ksinit
  have F_sinv := fun_mk (st := sInv) lsinv csinv ksinv
  have F_vinit := fun_mk (st := sLInit) lvinit cvinit kvinit
  have F_vbeg := fun_mk (st := sBeg) lvbeg cvbeg kvbeg
  have F_vlast := fun_mk (st := sLast) lvlast cvlast kvlast
  have F_vcont := fun_mk (st := sCont) lvcont cvcont kvcont
  have F_vto := fun_mk (st := sLTools) lvto cvto kvto
  have F_begun := fun_mk (st := sBegun) lbegun cbegun kbegun
  have F_rta := fun_mk (st := sToldAs) lrta crta krta
  have F_rpa := fun_mk (st := sPairs) lrpa crpa krpa
  have F_pto := fun_mk (st := sTools) lpto cpto kpto
  have F_exbegun := fun_mk (st := sXBegun) lexbegun cexbegun kexbegun
  have F_setby := fun_mk (st := sSetBy) lsetby csetby ksetby
  have F_exsetby := fun_mk (st := sXSetBy) lexsetby cexsetby kexsetby
  have F_found := fun_mk (st := sFound) lfound cfound kfound
  have F_exfound := fun_mk (st := sXFound) lexfound cexfound kexfound
  have F_trusted := fun_mk (st := sTrusted) ltrusted ctrusted ktrusted
  have F_extrusted := fun_mk (st := sXTrusted) lextrusted cextrusted kextrusted
  have F_passed := fun_mk (st := sPassed) lpassed cpassed kpassed
  have F_expassed := fun_mk (st := sXPassed) lexpassed cexpassed kexpassed
  have F_failed := fun_mk (st := sFailed) lfailed cfailed kfailed
  have F_exfailed := fun_mk (st := sXFailed) lexfailed cexfailed kexfailed
  have F_meet := fun_mk (st := sMeeting) lmeet cmeet kmeet
  have F_exagreed := fun_mk (st := sXAgreed) lexagreed cexagreed kexagreed
  have F_exdiffered := fun_mk (st := sXDiffered) lexdiffered cexdiffered kexdiffered
  have F_exserved := fun_mk (st := sXServed) lexserved cexserved kexserved
  have F_exbacked := fun_mk (st := sXBacked) lexbacked cexbacked kexbacked
  have F_eN := fun_mk (st := sEN) leN ceN keN
  have F_eM := fun_mk (st := sEM) leM ceM keM
  have F_eS := fun_mk (st := sES) leS ceS keS
  have F_eO := fun_mk (st := sET) leO ceO keO
  have F_eL := fun_mk (st := sEL) leL ceL keL
  have b_pen_ := F_pen.binds (ps := ["_law_script"]) fun _ _ _ _ _ _ us hl => match us, hl with | [_], _ => rfl
  have b_draw_ := F_draw.binds (ps := ["_law_pen_here", "_law_many"]) fun _ _ _ _ _ _ us hl => match us, hl with | [_, _], _ => rfl
  have b_pick_ := F_pick.binds (ps := ["_law_pen_here", "_law_some"]) fun _ _ _ _ _ _ us hl => match us, hl with | [_, _], _ => rfl
  have b_tick_ := F_tick.binds (ps := ["_law_pen_here"]) fun _ _ _ _ _ _ us hl => match us, hl with | [_], _ => rfl
  have b_lkinds_ := F_lkinds.binds (ps := []) fun _ _ _ _ _ _ us hl => match us, hl with | [], _ => rfl
  have b_drawn_ := F_drawn.binds (ps := ["_law_pen_here", "_law_crew_here", "_law_kinds_here"]) fun _ _ _ _ _ _ us hl => match us, hl with | [_, _, _], _ => rfl
  have b_crew_ := F_crew.binds (ps := ["_law_pen_here"]) fun _ _ _ _ _ _ us hl => match us, hl with | [_], _ => rfl
  have b_named_ := F_named.binds (ps := ["_law_row"]) fun _ _ _ _ _ _ us hl => match us, hl with | [_], _ => rfl
  have b_lmade_ := F_lmade.binds (ps := ["_law_row"]) fun _ _ _ _ _ _ us hl => match us, hl with | [_], _ => rfl
  have b_lasts_ := F_lasts.binds (ps := ["_law_begun", "_law_tool"]) fun _ _ _ _ _ _ us hl => match us, hl with | [_, _], _ => rfl
  have b_lpairs_ := F_lpairs.binds (ps := ["_law_row", "_law_begun"]) fun _ _ _ _ _ _ us hl => match us, hl with | [_, _], _ => rfl
  have b_heard_ := F_heard.binds (ps := ["_law_ask"]) fun _ _ _ _ _ _ us hl => match us, hl with | [_], _ => rfl
  have b_lstarts_ := F_lstarts.binds (ps := ["_law_pen_here", "_law_crew_here"]) fun _ _ _ _ _ _ us hl => match us, hl with | [_, _], _ => rfl
  have b_ltold_ := F_ltold.binds (ps := ["_law_pairs_here"]) fun _ _ _ _ _ _ us hl => match us, hl with | [_], _ => rfl
  have b_law_ := F_law.binds (ps := ["_law_script"]) fun _ _ _ _ _ _ us hl => match us, hl with | [_], _ => rfl
  have b_whole_ := F_whole.binds (ps := ["value"]) fun _ _ _ _ _ _ us hl => match us, hl with | [_], _ => rfl
  have b_moment_ := F_moment.binds (ps := ["value"]) fun _ _ _ _ _ _ us hl => match us, hl with | [_], _ => rfl
  have b_isname_ := F_isname.binds (ps := ["value"]) fun _ _ _ _ _ _ us hl => match us, hl with | [_], _ => rfl
  have b_check_ := F_check.binds (ps := ["value", "form"]) fun _ _ _ _ _ _ us hl => match us, hl with | [_, _], _ => rfl
  have b_checked_ := F_checked.binds (ps := ["kind", "told"]) fun _ _ _ _ _ _ us hl => match us, hl with | [_, _], _ => rfl
  have b_withf_ := F_withf.binds (ps := ["tool", "moments"]) fun _ _ _ _ _ _ us hl => match us, hl with | [_, _], _ => rfl
  have b_sinit_ := F_sinit.binds (ps := ["self", "tool", "moment", "is_sound"]) fun _ _ _ _ _ _ us hl => match us, hl with | [_, _, _, _], _ => rfl
  have b_sinv_ := F_sinv.binds (ps := ["self"]) fun _ _ _ _ _ _ us hl => match us, hl with | [_], _ => rfl
  have b_vinit_ := F_vinit.binds (ps := ["self", "begun"]) fun _ _ _ _ _ _ us hl => match us, hl with | [_, _], _ => rfl
  have b_vbeg_ := F_vbeg.binds (ps := ["self", "tool"]) fun _ _ _ _ _ _ us hl => match us, hl with | [_, _], _ => rfl
  have b_vlast_ := F_vlast.binds (ps := ["self", "life"]) fun _ _ _ _ _ _ us hl => match us, hl with | [_, _], _ => rfl
  have b_vcont_ := F_vcont.binds (ps := ["self", "life"]) fun _ _ _ _ _ _ us hl => match us, hl with | [_, _], _ => rfl
  have b_vto_ := F_vto.binds (ps := ["self"]) fun _ _ _ _ _ _ us hl => match us, hl with | [_], _ => rfl
  have b_begun_ := F_begun.binds (ps := ["self", "tool", "moment"]) fun _ _ _ _ _ _ us hl => match us, hl with | [_, _, _], _ => rfl
  have b_rta_ := F_rta.binds (ps := ["self", "forms"]) fun _ _ _ _ _ _ us hl => match us, hl with | [_, _], _ => rfl
  have b_rpa_ := F_rpa.binds (ps := ["self", "lives"]) fun _ _ _ _ _ _ us hl => match us, hl with | [_, _], _ => rfl
  have b_pto_ := F_pto.binds (ps := ["self"]) fun _ _ _ _ _ _ us hl => match us, hl with | [_], _ => rfl
  have b_exbegun_ := F_exbegun.binds (ps := ["self", "lives"]) fun _ _ _ _ _ _ us hl => match us, hl with | [_, _], _ => rfl
  have b_setby_ := F_setby.binds (ps := ["self", "tool", "moment", "by"]) fun _ _ _ _ _ _ us hl => match us, hl with | [_, _, _, _], _ => rfl
  have b_exsetby_ := F_exsetby.binds (ps := ["self", "lives"]) fun _ _ _ _ _ _ us hl => match us, hl with | [_, _], _ => rfl
  have b_found_ := F_found.binds (ps := ["self", "tool", "moment", "is_sound"]) fun _ _ _ _ _ _ us hl => match us, hl with | [_, _, _, _], _ => rfl
  have b_exfound_ := F_exfound.binds (ps := ["self", "lives"]) fun _ _ _ _ _ _ us hl => match us, hl with | [_, _], _ => rfl
  have b_trusted_ := F_trusted.binds (ps := ["self", "tool"]) fun _ _ _ _ _ _ us hl => match us, hl with | [_, _], _ => rfl
  have b_extrusted_ := F_extrusted.binds (ps := ["self", "lives"]) fun _ _ _ _ _ _ us hl => match us, hl with | [_, _], _ => rfl
  have b_passed_ := F_passed.binds (ps := ["self", "tool", "moment", "by"]) fun _ _ _ _ _ _ us hl => match us, hl with | [_, _, _, _], _ => rfl
  have b_expassed_ := F_expassed.binds (ps := ["self", "lives"]) fun _ _ _ _ _ _ us hl => match us, hl with | [_, _], _ => rfl
  have b_failed_ := F_failed.binds (ps := ["self", "tool", "moment", "by"]) fun _ _ _ _ _ _ us hl => match us, hl with | [_, _, _, _], _ => rfl
  have b_exfailed_ := F_exfailed.binds (ps := ["self", "lives"]) fun _ _ _ _ _ _ us hl => match us, hl with | [_, _], _ => rfl
  have b_meet_ := F_meet.binds (ps := ["self", "kind", "one", "moment", "other", "later"]) fun _ _ _ _ _ _ us hl => match us, hl with | [_, _, _, _, _, _], _ => rfl
  have b_exagreed_ := F_exagreed.binds (ps := ["self", "lives"]) fun _ _ _ _ _ _ us hl => match us, hl with | [_, _], _ => rfl
  have b_exdiffered_ := F_exdiffered.binds (ps := ["self", "lives"]) fun _ _ _ _ _ _ us hl => match us, hl with | [_, _], _ => rfl
  have b_exserved_ := F_exserved.binds (ps := ["self", "lives"]) fun _ _ _ _ _ _ us hl => match us, hl with | [_, _], _ => rfl
  have b_exbacked_ := F_exbacked.binds (ps := ["self", "lives"]) fun _ _ _ _ _ _ us hl => match us, hl with | [_, _], _ => rfl
  have b_eN_ := F_eN.binds (ps := ["self", "name"]) fun _ _ _ _ _ _ us hl => match us, hl with | [_, _], _ => rfl
  have b_eM_ := F_eM.binds (ps := ["self", "moment"]) fun _ _ _ _ _ _ us hl => match us, hl with | [_, _], _ => rfl
  have b_eS_ := F_eS.binds (ps := ["self", "value"]) fun _ _ _ _ _ _ us hl => match us, hl with | [_, _], _ => rfl
  have b_eO_ := F_eO.binds (ps := ["self", "tool"]) fun _ _ _ _ _ _ us hl => match us, hl with | [_, _], _ => rfl
  have b_eL_ := F_eL.binds (ps := ["self", "value"]) fun _ _ _ _ _ _ us hl => match us, hl with | [_, _], _ => rfl
  have L_CY : Cls K CY := ⟨pgCY, hdCY, poCY, saCY⟩
  have L_CV : Cls K CV := ⟨pgCV, hdCV, poCV, saCV⟩
  have P_vto : PropOf K CV "tools" pvto fvto := ⟨avto, gvto, tvto, ⟨_, rvto⟩⟩
  have L_C_begun : Cls K C_begun := ⟨pgC_begun, hdC_begun, poC_begun, saC_begun⟩
  have L_C_setby : Cls K C_setby := ⟨pgC_setby, hdC_setby, poC_setby, saC_setby⟩
  have L_C_found : Cls K C_found := ⟨pgC_found, hdC_found, poC_found, saC_found⟩
  have L_C_trusted : Cls K C_trusted := ⟨pgC_trusted, hdC_trusted, poC_trusted, saC_trusted⟩
  have L_C_passed : Cls K C_passed := ⟨pgC_passed, hdC_passed, poC_passed, saC_passed⟩
  have L_C_failed : Cls K C_failed := ⟨pgC_failed, hdC_failed, poC_failed, saC_failed⟩
  have L_C_agreed : Cls K C_agreed := ⟨pgC_agreed, hdC_agreed, poC_agreed, saC_agreed⟩
  have L_C_differed : Cls K C_differed := ⟨pgC_differed, hdC_differed, poC_differed, saC_differed⟩
  have L_C_served : Cls K C_served := ⟨pgC_served, hdC_served, poC_served, saC_served⟩
  have L_C_backed : Cls K C_backed := ⟨pgC_backed, hdC_backed, poC_backed, saC_backed⟩
  have RN : Err K CN := ⟨geN, heN, exeN, hdeN, caeN, thn, tht, cmeN⟩
  have ON : OneE K mg "BadName" "name" CN feN _ := ⟨⟨⟨_, _, _, _, _, _, _, _, _, _, _, _, _, _, _, xN, by rfl⟩, seN, exeN, tyeN, kkeN⟩, aeN, teN, g1 aN, neN, RN, b_eN_⟩
  have RM : Err K CM := ⟨geM, heM, exeM, hdeM, caeM, thn, tht, cmeM⟩
  have OM : OneE K mg "BadMoment" "moment" CM feM _ := ⟨⟨⟨_, _, _, _, _, _, _, _, _, _, _, _, _, _, _, xM, by rfl⟩, seM, exeM, tyeM, kkeM⟩, aeM, teM, g1 aM, neM, RM, b_eM_⟩
  have RS : Err K CS := ⟨geS, heS, exeS, hdeS, caeS, thn, tht, cmeS⟩
  have OS : OneE K mg "BadSaying" "value" CS feS _ := ⟨⟨⟨_, _, _, _, _, _, _, _, _, _, _, _, _, _, _, xS, by rfl⟩, seS, exeS, tyeS, kkeS⟩, aeS, teS, g1 aS, neS, RS, b_eS_⟩
  have RO : Err K CO := ⟨geO, heO, exeO, hdeO, caeO, thn, tht, cmeO⟩
  have OO : OneE K mg "NoTool" "tool" CO feO _ := ⟨⟨⟨_, _, _, _, _, _, _, _, _, _, _, _, _, _, _, xO, by rfl⟩, seO, exeO, tyeO, kkeO⟩, aeO, teO, g1 aO, neO, RO, b_eO_⟩
  have RL : Err K CL := ⟨geL, heL, exeL, hdeL, caeL, thn, tht, cmeL⟩
  have OL : OneE K mg "NoLife" "value" CL feL _ := ⟨⟨⟨_, _, _, _, _, _, _, _, _, _, _, _, _, _, _, xL, by rfl⟩, seL, exeL, tyeL, kkeL⟩, aeL, teL, g1 aL, neL, RL, b_eL_⟩
  have W : Words K mg := ⟨⟨_, g1 gG⟩, ⟨_, g1 gL⟩, ⟨_, g1 gA⟩, ⟨_, g1 gD⟩, ⟨aNo, g1 gN, fun H => tab_seq lN vN (by decide) H⟩, g0 b_isinstance, g0 b_int, g0 b_bool, g0 b_str, g0 b_len, g0 b_all⟩
  have WL : WordsL mg := ⟨g0 b_sorted, g0 b_set, g0 b_max, g0 b_min, g0 b_tuple⟩
  have TF : Forms K w mg aF := ⟨g1 gF, fun kind hk => by
    unfold kinds at hk
    simp only [List.mem_cons, List.not_mem_nil, or_false] at hk
    rcases hk with h | h | h | h | h | h | h | h | h | h <;> subst h
    · exact ⟨t_begun, ⟨esF, nF, _, lF, klF, gtbegun, rfl⟩, fun H => tab_seq ltbegun vtbegun (by decide +kernel) H⟩
    · exact ⟨t_setby, ⟨esF, nF, _, lF, klF, gtsetby, rfl⟩, fun H => tab_seq ltsetby vtsetby (by decide +kernel) H⟩
    · exact ⟨t_found, ⟨esF, nF, _, lF, klF, gtfound, rfl⟩, fun H => tab_seq ltfound vtfound (by decide +kernel) H⟩
    · exact ⟨t_trusted, ⟨esF, nF, _, lF, klF, gttrusted, rfl⟩, fun H => tab_seq lttrusted vttrusted (by decide +kernel) H⟩
    · exact ⟨t_passed, ⟨esF, nF, _, lF, klF, gtpassed, rfl⟩, fun H => tab_seq ltpassed vtpassed (by decide +kernel) H⟩
    · exact ⟨t_failed, ⟨esF, nF, _, lF, klF, gtfailed, rfl⟩, fun H => tab_seq ltfailed vtfailed (by decide +kernel) H⟩
    · exact ⟨t_agreed, ⟨esF, nF, _, lF, klF, gtagreed, rfl⟩, fun H => tab_seq ltagreed vtagreed (by decide +kernel) H⟩
    · exact ⟨t_differed, ⟨esF, nF, _, lF, klF, gtdiffered, rfl⟩, fun H => tab_seq ltdiffered vtdiffered (by decide +kernel) H⟩
    · exact ⟨t_served, ⟨esF, nF, _, lF, klF, gtserved, rfl⟩, fun H => tab_seq ltserved vtserved (by decide +kernel) H⟩
    · exact ⟨t_backed, ⟨esF, nF, _, lF, klF, gtbacked, rfl⟩, fun H => tab_seq ltbacked vtbacked (by decide +kernel) H⟩, g0 b_zip⟩
  have RR : Errs K mg CN CM CS := ⟨⟨_, _, ON, F_eN⟩, ⟨_, _, OM, F_eM⟩, ⟨_, _, OS, F_eS⟩⟩
  have RL : ErrsL K mg CO CL := ⟨⟨_, _, OO, F_eO⟩, ⟨_, _, OL, F_eL⟩⟩
  have TY : Say K mg CY := ⟨L_CY, nCY_tool, nCY_moment, nCY_is_sound, g1 aCY, thaCY, thn, tht, thmCY, kit_self, fun T hT => by
    simp only [List.mem_cons, List.not_mem_nil, or_false] at hT
    rcases hT with h | h | h | h | h | h <;> subst h <;> exact ⟨kit_no hclsCY htypCY (by decide +kernel), notFirst_ty (by decide +kernel)⟩⟩
  have TV : Lvs K mg CV := ⟨L_CV, nCV__begun, g1 aCV, fun T hT => by
    simp only [List.mem_cons, List.not_mem_nil, or_false] at hT
    rcases hT with h | h | h | h | h | h | h <;> subst h <;> exact ⟨kit_no hclsCV htypCV (by decide +kernel), notFirst_ty (by decide +kernel)⟩⟩
  have HR : HrL K mg CT CO CN CM := {
    gT := g1 aT, gN := g1 aO, gM := g1 aN, gS := g1 aM, gV := g0 b_ValueError, isi := g0 b_isinstance, len := g0 b_len
    te := fun C hC => by
      simp only [List.mem_cons, List.not_mem_nil, or_false] at hC
      rcases hC with rfl | rfl | rfl
      · exact ⟨exm_own iT tT eT uteO sT, kit_VE veeO, RO⟩
      · exact ⟨exm_own iT tT eT uteN sT, kit_VE veeN, RN⟩
      · exact ⟨exm_own iT tT eT uteM sT, kit_VE veeM, RM⟩
    no := fun C hC => by
      simp only [List.mem_cons, List.not_mem_nil, or_false] at hC
      rcases hC with rfl | rfl | rfl
      · exact kit_no iceO tyeO (by decide +kernel)
      · exact kit_no iceN tyeN (by decide +kernel)
      · exact kit_no iceM tyeM (by decide +kernel)
    nn := kit_self
    nm := kit_own iceN tyeN uON uNN
    ns := kit_own iceM tyeM uOM uMM
    mn := kit_own iceO tyeO uNO uOO
    mm := kit_self
    ms := kit_own iceM tyeM uNM uMM
    sn := kit_own iceO tyeO uMO uOO
    sm := kit_own iceN tyeN uMN uNN
    ss := kit_self
    fN := neO, fM := neN, fS := neM }
  obtain ⟨e_begun, e_setby, e_found, e_trusted, e_passed, e_failed, e_agreed, e_differed, e_served, e_backed⟩ := cf_all C_begun C_setby C_found C_trusted C_passed C_failed C_agreed C_differed C_served C_backed
  generalize cfOf C_begun C_setby C_found C_trusted C_passed C_failed C_agreed C_differed C_served C_backed = Cf at e_begun e_setby e_found e_trusted e_passed e_failed e_agreed e_differed e_served e_backed
  have TR : RowsC K mg Cf CR := ⟨g1 gR, all10 (by rw [e_begun, attrs_begun]; exact ⟨L_C_begun, by simp only [List.forall_mem_cons]; exact ⟨nC_begun__told, nC_begun_kind, nC_begun_tool, nC_begun_moment, fun _ h => nomatch h⟩⟩) (by rw [e_setby, attrs_setby]; exact ⟨L_C_setby, by simp only [List.forall_mem_cons]; exact ⟨nC_setby__told, nC_setby_kind, nC_setby_tool, nC_setby_moment, nC_setby_by, fun _ h => nomatch h⟩⟩) (by rw [e_found, attrs_found]; exact ⟨L_C_found, by simp only [List.forall_mem_cons]; exact ⟨nC_found__told, nC_found_kind, nC_found_tool, nC_found_moment, nC_found_is_sound, fun _ h => nomatch h⟩⟩) (by rw [e_trusted, attrs_trusted]; exact ⟨L_C_trusted, by simp only [List.forall_mem_cons]; exact ⟨nC_trusted__told, nC_trusted_kind, nC_trusted_tool, fun _ h => nomatch h⟩⟩) (by rw [e_passed, attrs_passed]; exact ⟨L_C_passed, by simp only [List.forall_mem_cons]; exact ⟨nC_passed__told, nC_passed_kind, nC_passed_tool, nC_passed_moment, nC_passed_by, fun _ h => nomatch h⟩⟩) (by rw [e_failed, attrs_failed]; exact ⟨L_C_failed, by simp only [List.forall_mem_cons]; exact ⟨nC_failed__told, nC_failed_kind, nC_failed_tool, nC_failed_moment, nC_failed_by, fun _ h => nomatch h⟩⟩) (by rw [e_agreed, attrs_meet "agreed" (by decide +kernel)]; exact ⟨L_C_agreed, by simp only [List.forall_mem_cons]; exact ⟨nC_agreed__told, nC_agreed_kind, nC_agreed_one, nC_agreed_moment, nC_agreed_other, nC_agreed_later, fun _ h => nomatch h⟩⟩) (by rw [e_differed, attrs_meet "differed" (by decide +kernel)]; exact ⟨L_C_differed, by simp only [List.forall_mem_cons]; exact ⟨nC_differed__told, nC_differed_kind, nC_differed_one, nC_differed_moment, nC_differed_other, nC_differed_later, fun _ h => nomatch h⟩⟩) (by rw [e_served, attrs_meet "served" (by decide +kernel)]; exact ⟨L_C_served, by simp only [List.forall_mem_cons]; exact ⟨nC_served__told, nC_served_kind, nC_served_one, nC_served_moment, nC_served_other, nC_served_later, fun _ h => nomatch h⟩⟩) (by rw [e_backed, attrs_meet "backed" (by decide +kernel)]; exact ⟨L_C_backed, by simp only [List.forall_mem_cons]; exact ⟨nC_backed__told, nC_backed_kind, nC_backed_one, nC_backed_moment, nC_backed_other, nC_backed_later, fun _ h => nomatch h⟩⟩),
    all10 (by rw [e_begun]; exact kit_own icR tyR sRC_begun sbR) (by rw [e_setby]; exact kit_own icR tyR sRC_setby sbR) (by rw [e_found]; exact kit_own icR tyR sRC_found sbR) (by rw [e_trusted]; exact kit_own icR tyR sRC_trusted sbR) (by rw [e_passed]; exact kit_own icR tyR sRC_passed sbR) (by rw [e_failed]; exact kit_own icR tyR sRC_failed sbR) (by rw [e_agreed]; exact kit_own icR tyR sRC_agreed sbR) (by rw [e_differed]; exact kit_own icR tyR sRC_differed sbR) (by rw [e_served]; exact kit_own icR tyR sRC_served sbR) (by rw [e_backed]; exact kit_own icR tyR sRC_backed sbR),
    all10 (by rw [e_begun]; exact thaC_begun) (by rw [e_setby]; exact thaC_setby) (by rw [e_found]; exact thaC_found) (by rw [e_trusted]; exact thaC_trusted) (by rw [e_passed]; exact thaC_passed) (by rw [e_failed]; exact thaC_failed) (by rw [e_agreed]; exact thaC_agreed) (by rw [e_differed]; exact thaC_differed) (by rw [e_served]; exact thaC_served) (by rw [e_backed]; exact thaC_backed), thn, tht, all10 (by rw [e_begun]; exact thmC_begun) (by rw [e_setby]; exact thmC_setby) (by rw [e_found]; exact thmC_found) (by rw [e_trusted]; exact thmC_trusted) (by rw [e_passed]; exact thmC_passed) (by rw [e_failed]; exact thmC_failed) (by rw [e_agreed]; exact thmC_agreed) (by rw [e_differed]; exact thmC_differed) (by rw [e_served]; exact thmC_served) (by rw [e_backed]; exact thmC_backed)⟩
  refine ⟨PySem.W.fnOf "law" "law" (defArgs sLaw) (defBody sLaw) (defScope sLaw) .none kVlaw dclaw pmlaw anlaw (.ref c_law) ctlaw, c_law, P_law, tab_by alaw llaw rfl lclaw vclaw, nTlaw, fun s v => .of_eq rfl, fun base _ _ TB => ?_⟩
  have GD := ok_draw (P := l.prog) (w := w) (base := base) F_draw (g0 b_len) (g0 b_int) (g0 b_abs)
  have GPk := ok_pick (P := l.prog) (w := w) (base := base) F_pick (g0 b_len) F_draw b_draw_ (g1 adraw) GD
  have GPen := ok_pen (P := l.prog) (w := w) (base := base) F_pen (g0 b_list)
  have GTi := ok_tick (P := l.prog) (w := w) (base := base) F_tick F_pick b_pick_ (g1 apick) GPk F_draw b_draw_ (g1 adraw) GD
  have GKi := ok_kinds (P := l.prog) (w := w) (mg := mg) (base := base) F_lkinds
  have GDr := ok_drawn (P := l.prog) (w := w) (base := base) F_drawn (g0 b_int) F_pick b_pick_ (g1 apick) GPk F_draw b_draw_ (g1 adraw) GD F_tick b_tick_ (g1 atick) GTi
  have GCr := ok_crew (P := l.prog) (w := w) (base := base) F_crew F_pick b_pick_ (g1 apick) GPk F_draw b_draw_ (g1 adraw) GD
  have GNd := ok_named (P := l.prog) (w := w) (base := base) F_named (g0 b_isinstance) (g0 b_str)
  have GM := ok_moment (P := l.prog) (w := w) (base := base) F_moment W F_whole b_whole_ (g1 awhole)
  have GNa := ok_name (P := l.prog) (w := w) (base := base) F_isname W
  have GC := ok_check (P := l.prog) (w := w) (base := base) F_check W RR F_moment b_moment_ (g1 amoment) GM F_isname b_isname_ (g1 aisname) GNa
  have GCk := ok_checked (P := l.prog) (w := w) (base := base) F_checked TF F_check b_check_ (g1 acheck) GC
  have G_begun := ok_Begun (P := l.prog) (w := w) (base := base) (C := C_begun) F_begun ⟨L_C_begun, by simp only [List.forall_mem_cons]; exact ⟨nC_begun__told, nC_begun_kind, nC_begun_tool, nC_begun_moment, fun _ h => nomatch h⟩⟩ F_checked b_checked_ (g1 achecked) GCk
  have G_setby := ok_SetBy (P := l.prog) (w := w) (base := base) (C := C_setby) F_setby ⟨L_C_setby, by simp only [List.forall_mem_cons]; exact ⟨nC_setby__told, nC_setby_kind, nC_setby_tool, nC_setby_moment, nC_setby_by, fun _ h => nomatch h⟩⟩ F_checked b_checked_ (g1 achecked) GCk
  have G_found := ok_Found (P := l.prog) (w := w) (base := base) (C := C_found) F_found ⟨L_C_found, by simp only [List.forall_mem_cons]; exact ⟨nC_found__told, nC_found_kind, nC_found_tool, nC_found_moment, nC_found_is_sound, fun _ h => nomatch h⟩⟩ F_checked b_checked_ (g1 achecked) GCk
  have G_trusted := ok_Trusted (P := l.prog) (w := w) (base := base) (C := C_trusted) F_trusted ⟨L_C_trusted, by simp only [List.forall_mem_cons]; exact ⟨nC_trusted__told, nC_trusted_kind, nC_trusted_tool, fun _ h => nomatch h⟩⟩ F_checked b_checked_ (g1 achecked) GCk
  have G_passed := ok_Passed (P := l.prog) (w := w) (base := base) (C := C_passed) F_passed ⟨L_C_passed, by simp only [List.forall_mem_cons]; exact ⟨nC_passed__told, nC_passed_kind, nC_passed_tool, nC_passed_moment, nC_passed_by, fun _ h => nomatch h⟩⟩ F_checked b_checked_ (g1 achecked) GCk
  have G_failed := ok_Failed (P := l.prog) (w := w) (base := base) (C := C_failed) F_failed ⟨L_C_failed, by simp only [List.forall_mem_cons]; exact ⟨nC_failed__told, nC_failed_kind, nC_failed_tool, nC_failed_moment, nC_failed_by, fun _ h => nomatch h⟩⟩ F_checked b_checked_ (g1 achecked) GCk
  have GMe_agreed := ok_Meeting (P := l.prog) (w := w) (base := base) (C := C_agreed) F_meet ⟨L_C_agreed, by simp only [List.forall_mem_cons]; exact ⟨nC_agreed__told, nC_agreed_kind, nC_agreed_one, nC_agreed_moment, nC_agreed_other, nC_agreed_later, fun _ h => nomatch h⟩⟩ F_checked b_checked_ (g1 achecked) GCk
  have SF_agreed : SupFn K l.prog "__init__" "Agreed.__init__" (defArgs sAgreed) (defBody sAgreed) (defScope sAgreed) C_agreed ccagreed fagreed (.ref cdaagreed) _ := ⟨⟨_, _, _, _, _, _, _, _, rfl, lagreed, cagreed⟩, kagreed, ⟨_, _, _, eagreed⟩, ⟨_, _, _, _, _, _, _, rfl, dagreed, vagreed, wagreed⟩, tops, opq, ⟨_, zagreed⟩⟩
  have G_agreed := ok_Agreed (P := l.prog) (w := w) (base := base) (C := C_agreed) SF_agreed (g0 b_super) yagreed ⟨_, zagreed⟩ xagreed tmeet fnmeet b_meet_ GMe_agreed
  have GMe_differed := ok_Meeting (P := l.prog) (w := w) (base := base) (C := C_differed) F_meet ⟨L_C_differed, by simp only [List.forall_mem_cons]; exact ⟨nC_differed__told, nC_differed_kind, nC_differed_one, nC_differed_moment, nC_differed_other, nC_differed_later, fun _ h => nomatch h⟩⟩ F_checked b_checked_ (g1 achecked) GCk
  have SF_differed : SupFn K l.prog "__init__" "Differed.__init__" (defArgs sDiffered) (defBody sDiffered) (defScope sDiffered) C_differed ccdiffered fdiffered (.ref cdadiffered) _ := ⟨⟨_, _, _, _, _, _, _, _, rfl, ldiffered, cdiffered⟩, kdiffered, ⟨_, _, _, ediffered⟩, ⟨_, _, _, _, _, _, _, rfl, ddiffered, vdiffered, wdiffered⟩, tops, opq, ⟨_, zdiffered⟩⟩
  have G_differed := ok_Differed (P := l.prog) (w := w) (base := base) (C := C_differed) SF_differed (g0 b_super) ydiffered ⟨_, zdiffered⟩ xdiffered tmeet fnmeet b_meet_ GMe_differed
  have GMe_served := ok_Meeting (P := l.prog) (w := w) (base := base) (C := C_served) F_meet ⟨L_C_served, by simp only [List.forall_mem_cons]; exact ⟨nC_served__told, nC_served_kind, nC_served_one, nC_served_moment, nC_served_other, nC_served_later, fun _ h => nomatch h⟩⟩ F_checked b_checked_ (g1 achecked) GCk
  have SF_served : SupFn K l.prog "__init__" "Served.__init__" (defArgs sServed) (defBody sServed) (defScope sServed) C_served ccserved fserved (.ref cdaserved) _ := ⟨⟨_, _, _, _, _, _, _, _, rfl, lserved, cserved⟩, kserved, ⟨_, _, _, eserved⟩, ⟨_, _, _, _, _, _, _, rfl, dserved, vserved, wserved⟩, tops, opq, ⟨_, zserved⟩⟩
  have G_served := ok_Served (P := l.prog) (w := w) (base := base) (C := C_served) SF_served (g0 b_super) yserved ⟨_, zserved⟩ xserved tmeet fnmeet b_meet_ GMe_served
  have GMe_backed := ok_Meeting (P := l.prog) (w := w) (base := base) (C := C_backed) F_meet ⟨L_C_backed, by simp only [List.forall_mem_cons]; exact ⟨nC_backed__told, nC_backed_kind, nC_backed_one, nC_backed_moment, nC_backed_other, nC_backed_later, fun _ h => nomatch h⟩⟩ F_checked b_checked_ (g1 achecked) GCk
  have SF_backed : SupFn K l.prog "__init__" "Backed.__init__" (defArgs sBacked) (defBody sBacked) (defScope sBacked) C_backed ccbacked fbacked (.ref cdabacked) _ := ⟨⟨_, _, _, _, _, _, _, _, rfl, lbacked, cbacked⟩, kbacked, ⟨_, _, _, ebacked⟩, ⟨_, _, _, _, _, _, _, rfl, dbacked, vbacked, wbacked⟩, tops, opq, ⟨_, zbacked⟩⟩
  have G_backed := ok_Backed (P := l.prog) (w := w) (base := base) (C := C_backed) SF_backed (g0 b_super) ybacked ⟨_, zbacked⟩ xbacked tmeet fnmeet b_meet_ GMe_backed
  have RW : Rows K l.prog w mg base CN CM CS Cf := {
    begun := ⟨fbegun, _, by rw [e_begun]; exact g1 aC_begun, by rw [e_begun]; exact ⟨mkC_begun, abegun, ibegun, kcC_begun⟩, b_begun_, by rw [e_begun]; exact G_begun.mono (by decide)⟩
    setby := ⟨fsetby, _, by rw [e_setby]; exact g1 aC_setby, by rw [e_setby]; exact ⟨mkC_setby, asetby, isetby, kcC_setby⟩, b_setby_, by rw [e_setby]; exact G_setby.mono (by decide)⟩
    found := ⟨ffound, _, by rw [e_found]; exact g1 aC_found, by rw [e_found]; exact ⟨mkC_found, afound, ifound, kcC_found⟩, b_found_, by rw [e_found]; exact G_found.mono (by decide)⟩
    trusted := ⟨ftrusted, _, by rw [e_trusted]; exact g1 aC_trusted, by rw [e_trusted]; exact ⟨mkC_trusted, atrusted, itrusted, kcC_trusted⟩, b_trusted_, by rw [e_trusted]; exact G_trusted.mono (by decide)⟩
    passed := ⟨fpassed, _, by rw [e_passed]; exact g1 aC_passed, by rw [e_passed]; exact ⟨mkC_passed, apassed, ipassed, kcC_passed⟩, b_passed_, by rw [e_passed]; exact G_passed.mono (by decide)⟩
    failed := ⟨ffailed, _, by rw [e_failed]; exact g1 aC_failed, by rw [e_failed]; exact ⟨mkC_failed, afailed, ifailed, kcC_failed⟩, b_failed_, by rw [e_failed]; exact G_failed.mono (by decide)⟩
    agreed := ⟨fagreed, _, by rw [e_agreed]; exact g1 aC_agreed, by rw [e_agreed]; exact ⟨mkC_agreed, aagreed, iagreed, kcC_agreed⟩, .all (fun us hl => match us, hl with | [_, _, _, _, _], _ => rfl), by rw [e_agreed]; exact G_agreed⟩
    differed := ⟨fdiffered, _, by rw [e_differed]; exact g1 aC_differed, by rw [e_differed]; exact ⟨mkC_differed, adiffered, idiffered, kcC_differed⟩, .all (fun us hl => match us, hl with | [_, _, _, _, _], _ => rfl), by rw [e_differed]; exact G_differed⟩
    served := ⟨fserved, _, by rw [e_served]; exact g1 aC_served, by rw [e_served]; exact ⟨mkC_served, aserved, iserved, kcC_served⟩, .all (fun us hl => match us, hl with | [_, _, _, _, _], _ => rfl), by rw [e_served]; exact G_served⟩
    backed := ⟨fbacked, _, by rw [e_backed]; exact g1 aC_backed, by rw [e_backed]; exact ⟨mkC_backed, abacked, ibacked, kcC_backed⟩, .all (fun us hl => match us, hl with | [_, _, _, _, _], _ => rfl), by rw [e_backed]; exact G_backed⟩ }
  have GMa := ok_made (P := l.prog) (w := w) (base := base) F_lmade RW
  have GTa := ok_toldAs (P := l.prog) (w := w) (base := base) F_rta TR TF
  have SE : SetE mg := ⟨g0 b_tuple, g0 b_sorted, g0 b_set⟩
  have hTa : ∀ kind ∈ kinds, Meth K (Cf kind) "_told_as" frta := all10 (by rw [e_begun]; exact ⟨artaC_begun, irta, krta⟩) (by rw [e_setby]; exact ⟨artaC_setby, irta, krta⟩) (by rw [e_found]; exact ⟨artaC_found, irta, krta⟩) (by rw [e_trusted]; exact ⟨artaC_trusted, irta, krta⟩) (by rw [e_passed]; exact ⟨artaC_passed, irta, krta⟩) (by rw [e_failed]; exact ⟨artaC_failed, irta, krta⟩) (by rw [e_agreed]; exact ⟨artaC_agreed, irta, krta⟩) (by rw [e_differed]; exact ⟨artaC_differed, irta, krta⟩) (by rw [e_served]; exact ⟨artaC_served, irta, krta⟩) (by rw [e_backed]; exact ⟨artaC_backed, irta, krta⟩)
  have GTl := ok_tools (P := l.prog) (w := w) (base := base) F_pto SE TR hTa b_rta_ GTa
  have hTl : ∀ kind ∈ kinds, PropOf K (Cf kind) "tools" qpto fpto := all10 (by rw [e_begun]; exact ⟨aptoC_begun, gpto, tpto, ⟨_, rpto⟩⟩) (by rw [e_setby]; exact ⟨aptoC_setby, gpto, tpto, ⟨_, rpto⟩⟩) (by rw [e_found]; exact ⟨aptoC_found, gpto, tpto, ⟨_, rpto⟩⟩) (by rw [e_trusted]; exact ⟨aptoC_trusted, gpto, tpto, ⟨_, rpto⟩⟩) (by rw [e_passed]; exact ⟨aptoC_passed, gpto, tpto, ⟨_, rpto⟩⟩) (by rw [e_failed]; exact ⟨aptoC_failed, gpto, tpto, ⟨_, rpto⟩⟩) (by rw [e_agreed]; exact ⟨aptoC_agreed, gpto, tpto, ⟨_, rpto⟩⟩) (by rw [e_differed]; exact ⟨aptoC_differed, gpto, tpto, ⟨_, rpto⟩⟩) (by rw [e_served]; exact ⟨aptoC_served, gpto, tpto, ⟨_, rpto⟩⟩) (by rw [e_backed]; exact ⟨aptoC_backed, gpto, tpto, ⟨_, rpto⟩⟩)
  have GSi := ok_init (P := l.prog) (w := w) (base := base) F_sinit TY F_check b_check_ (g1 acheck) GC
  have MY : Mk K CY fsinit := ⟨mkCY, asinit, isinit, kcCY⟩
  have GSv := ok_inv (P := l.prog) (w := w) (base := base) F_sinv TY MY b_sinit_ GSi
  have SM : SayM l.prog w K mg base CN CM CS CY fsinit _ := ⟨TY, MY, b_sinit_, GSi⟩
  have GWi := ok_with (P := l.prog) (w := w) (base := base) F_withf WL F_check b_check_ (g1 acheck) GC
  have GVi := ok_linit (P := l.prog) (w := w) (base := base) F_vinit TV WL F_withf b_withf_ (g1 awithf) GWi
  have LM : LivM l.prog w K mg base CV fvinit _ := ⟨TV, ⟨mkCV, avinit, ivinit, kcCV⟩, b_vinit_, GVi⟩
  have GBg := ok_beg (P := l.prog) (w := w) (base := base) F_vbeg TV W RL
  have GCo := ok_cont (P := l.prog) (w := w) (base := base) F_vcont TV W WL F_whole b_whole_ (g1 awhole)
  have GLa := ok_last (P := l.prog) (w := w) (base := base) F_vlast TV W WL RL b_vcont_ GCo avcont ivcont
  have GLt := ok_ltools (P := l.prog) (w := w) (base := base) F_vto TV (g0 b_tuple)
  have GX_begun := ok_xBegun (P := l.prog) (w := w) (base := base) (CV := CV) F_exbegun TR SM
  have GX_setby := ok_xSetBy (P := l.prog) (w := w) (base := base) (CV := CV) F_exsetby TR SM
  have GX_found := ok_xFound (P := l.prog) (w := w) (base := base) (CV := CV) F_exfound TR SM
  have GX_trusted := ok_xTrusted (P := l.prog) (w := w) (base := base) (CV := CV) F_extrusted TR SM TV ⟨avbeg, ivbeg, kvbeg⟩ b_vbeg_ GBg ⟨avlast, ivlast, kvlast⟩ b_vlast_ GLa
  have GX_passed := ok_xPassed (P := l.prog) (w := w) (base := base) (CV := CV) F_expassed TR SM
  have GX_failed := ok_xFailed (P := l.prog) (w := w) (base := base) (CV := CV) F_exfailed TR SM
  have GX_agreed := ok_xAgreed (P := l.prog) (w := w) (base := base) (CV := CV) F_exagreed TR SM asinv isinv b_sinv_ GSv
  have GX_differed := ok_xDiffered (P := l.prog) (w := w) (base := base) (CV := CV) F_exdiffered TR SM
  have GX_served := ok_xServed (P := l.prog) (w := w) (base := base) (CV := CV) F_exserved TR SM
  have GX_backed := ok_xBacked (P := l.prog) (w := w) (base := base) (CV := CV) F_exbacked TR SM
  have XX : Excs l.prog w K mg base Cf CY CV := ⟨all10 (p := fun kind => ∃ (fX : Addr) (fdX : FuncData), Meth K (Cf kind) "_excluded" fX ∧ Binds K fdX ["self", "lives"] [] ∧ FnOk l.prog w K mg base CX0 8 fX fdX ["self", "lives"] (spEx K Cf CY CV kind)) ⟨fexbegun, _, by rw [e_begun]; exact ⟨aexbegun, iexbegun, kexbegun⟩, b_exbegun_, GX_begun⟩ ⟨fexsetby, _, by rw [e_setby]; exact ⟨aexsetby, iexsetby, kexsetby⟩, b_exsetby_, GX_setby⟩ ⟨fexfound, _, by rw [e_found]; exact ⟨aexfound, iexfound, kexfound⟩, b_exfound_, GX_found⟩ ⟨fextrusted, _, by rw [e_trusted]; exact ⟨aextrusted, iextrusted, kextrusted⟩, b_extrusted_, GX_trusted⟩ ⟨fexpassed, _, by rw [e_passed]; exact ⟨aexpassed, iexpassed, kexpassed⟩, b_expassed_, GX_passed⟩ ⟨fexfailed, _, by rw [e_failed]; exact ⟨aexfailed, iexfailed, kexfailed⟩, b_exfailed_, GX_failed⟩ ⟨fexagreed, _, by rw [e_agreed]; exact ⟨aexagreed, iexagreed, kexagreed⟩, b_exagreed_, GX_agreed⟩ ⟨fexdiffered, _, by rw [e_differed]; exact ⟨aexdiffered, iexdiffered, kexdiffered⟩, b_exdiffered_, GX_differed⟩ ⟨fexserved, _, by rw [e_served]; exact ⟨aexserved, iexserved, kexserved⟩, b_exserved_, GX_served⟩ ⟨fexbacked, _, by rw [e_backed]; exact ⟨aexbacked, iexbacked, kexbacked⟩, b_exbacked_, GX_backed⟩⟩
  have GPr := ok_pairsR (P := l.prog) (w := w) (base := base) F_rpa TR (g0 b_tuple) RL hTl b_pto_ GTl TV P_vto b_vto_ GLt XX
  have hPa : ∀ kind ∈ kinds, Meth K (Cf kind) "pairs" frpa := all10 (by rw [e_begun]; exact ⟨arpaC_begun, irpa, krpa⟩) (by rw [e_setby]; exact ⟨arpaC_setby, irpa, krpa⟩) (by rw [e_found]; exact ⟨arpaC_found, irpa, krpa⟩) (by rw [e_trusted]; exact ⟨arpaC_trusted, irpa, krpa⟩) (by rw [e_passed]; exact ⟨arpaC_passed, irpa, krpa⟩) (by rw [e_failed]; exact ⟨arpaC_failed, irpa, krpa⟩) (by rw [e_agreed]; exact ⟨arpaC_agreed, irpa, krpa⟩) (by rw [e_differed]; exact ⟨arpaC_differed, irpa, krpa⟩) (by rw [e_served]; exact ⟨arpaC_served, irpa, krpa⟩) (by rw [e_backed]; exact ⟨arpaC_backed, irpa, krpa⟩)
  have GSt := ok_starts (P := l.prog) (w := w) (base := base) F_lstarts (g0 b_range) F_pick b_pick_ (g1 apick) GPk F_draw b_draw_ (g1 adraw) GD
  have GLs := ok_lasts (P := l.prog) (w := w) (base := base) F_lasts (g0 b_sorted) (g0 b_set)
  have GQ := ok_pairsL (P := l.prog) (w := w) (base := base) F_lpairs F_lasts b_lasts_ (g1 alasts) GLs
  have GTo := ok_toldL (P := l.prog) (w := w) (base := base) F_ltold TY (g0 b_isinstance) (g0 b_tuple) (g0 b_len)
  exact ok_law (T := T1 P_law) F_law rfl (TB _ List.mem_cons_self) (fun _ _ _ => List.mem_cons_self) (fun _ _ _ q hq _ => by rw [List.mem_singleton.mp hq]; rfl) TR LM HR (g0 b_repr) (g0 b_dict) (g0 b_sorted) (g0 b_set) (g0 b_len)
    F_pen b_pen_ (g1 apen) GPen F_lkinds b_lkinds_ (g1 alkinds) GKi F_drawn b_drawn_ (g1 adrawn) GDr F_crew b_crew_ (g1 acrew) GCr F_lstarts b_lstarts_ (g1 alstarts) GSt F_lmade b_lmade_ (g1 almade) GMa F_ltold b_ltold_ (g1 altold) GTo F_lpairs b_lpairs_ (g1 alpairs) GQ F_named b_named_ (g1 anamed) GNd F_draw b_draw_ (g1 adraw) GD
    hPa b_rpa_ (kb_lives fun s u w => .of_eq rfl) GPr F_heard b_heard_ (g1 aheard)
theorem walk {l : PySem.W.OpenLaw} {q : Program} {loose : List Str} {XP : (Str → Option Value) → Heap → Prop} {YP : World → Heap → Prop} {d : DefRec} {K : Params → PySem.W.Frag} (hn : l.most = some 63) (hdf : d.params.defaults = []) (hnm : d.name = "law")
    (hrec1 : ((recsOf q).find? (fun e => e.name == ("law" : Str))).isSome = true) (hY : ∀ (w : World) (h : Heap), YP w h → (K w.params).In h)
    (F : ∀ (w : World) (mg : Str → Option Value) (fa : Addr) (h : Heap), (K w.params).In h → h.Ns mainGlobals mg → mg "law" = some (.ref fa) →
      ∃ (fd : FuncData) (c1 P1 : Addr), PySem.W.tabIn (K w.params) "law" = some (c1, P1) ∧ (K w.params).lookup P1 = none ∧ (∀ (s : Shared) (u : Value), BindsTo s fd ⟨[u], []⟩ [("_law_script", u)]) ∧
        ∀ base : Heap, (K w.params).In base → base.Ns mainGlobals mg → (∀ q ∈ [(c1, P1)], TabB base mg q.1 q.2) → FnG l.prog w (K w.params) mg base CX0 13 fa fd ["_law_script"] (spLaw (K w.params) (T1 P1))) :
    PySem.W.WalkO q loose XP YP l.row.toRowW d [] (fun f vs => PySem.call f vs) := by
  apply Att.attach_callB hn hdf
  intro w s₀ s₁ mg mb fa o pm cd doc a vs ns G Y _ _ _ hmg hobj hints hlen hbits hg
  have KX := hY w _ Y
  rw [hnm] at hmg
  obtain ⟨fd, c1, P1, ht1, nT1, hb, hF⟩ := F w mg fa _ KX G.T.g hmg
  obtain ⟨d1, hd1⟩ := Option.isSome_iff_exists.mp hrec1
  obtain ⟨C1, tb1⟩ := PySem.W.tab_of G.T KX hd1 ht1
  refine law_callTGs (cs := [(c1, P1)]) KX G.T.g G.T.b G.T.builtins G.T.nolimit hg (fun q hq => ?_) G.T.bmain hobj hints (Nat.le_trans hlen (by decide)) ⟨rfl, by decide, by decide⟩ hF hb (fun H hT hS => ⟨a, ns, rfl, hS, fun q hq => ?_, fun _ => rfl⟩) fun _ _ _ z => z
  · rw [List.mem_singleton.mp hq]
    exact ⟨tb1, nT1, C1⟩
  · unfold T1 at hq
    rw [List.mem_singleton.mp hq]
    exact TabS.nil (hT (c1, P1) (by simp))
end K13

open PySem PySem.W PySem.Calls PyProof.Rows
noncomputable def K13.Hk : Hook := kHook K13.dummy.heap_1 K13.as K13.as_eq
theorem K13.left : LeftO K13.R.prog K13.q K13.loose (fun s => xlAt K13.q [] s && recOk (RowW.records K13.R.toRowW) s) (Hook.obs K13.Hk) (Hook.val K13.Hk) 16000 true :=
  HeadRun.left_oneK (M := 15300) (by kernel_rfl) (by rfl) (fun s => by kernel_rfl) (by rfl) (K13.byRowAll "special-get-raises" K13.runF K13.runT)

set_option maxRecDepth 100000 in
set_option maxHeartbeats 0 in
theorem PySem.Challenge.cw_soundtill_k13_pairs_of_rows_holds : PySem.Challenge.rw_soundtill_k13_pairs_of_rows.Holds := by
  w_on; o_law
  refine PySem.W.holds_open (r := K13.R) (q := K13.q) (loose := K13.loose) (Xt := fun s => xlAt K13.q [] s && recOk (RowW.records K13.R.toRowW) s) (XP := XL K13.q []) (Yf := Hook.obs (kHook K13.dummy.heap_1 K13.as K13.as_eq)) (Ya := Hook.val (kHook K13.dummy.heap_1 K13.as K13.as_eq)) (YP := Hook.says (kHook K13.dummy.heap_1 K13.as K13.as_eq)) (N := 16000) K13.left (Hook.of (kHook K13.dummy.heap_1 K13.as K13.as_eq)) (Hook.keeps (kHook K13.dummy.heap_1 K13.as K13.as_eq)) (fun s e => xl_of s (Bool.and_eq_true_iff.mp e).1) XL.keeps (by rfl) (by rfl) (by rfl) (fun s e => recFacts_of (Bool.and_eq_true_iff.mp e).2) (by rfl) (by first | assumption | decide +kernel) (by decide +kernel) ⟨rfl, rfl, rfl, rfl, rfl, by decide +kernel⟩ ?hw ?hc
  (case hw => w_witness2)
  k_fill
  refine K13.walk (l := PySem.Challenge.rw_soundtill_k13_pairs_of_rows) rfl rfl rfl (by decide +kernel) (fun w h Y => PySem.W.kIn_of Y) ?F
  case F =>
    intro w mg fa h KX G hmg
    refine' K13.all_mk KX G hmg ?apen ?lpen ?cpen ?kpen ?adraw ?ldraw ?cdraw ?kdraw ?apick ?lpick ?cpick ?kpick ?atick ?ltick ?ctick ?ktick ?alkinds ?llkinds ?clkinds ?klkinds ?adrawn ?ldrawn ?cdrawn ?kdrawn ?acrew ?lcrew ?ccrew ?kcrew ?anamed ?lnamed ?cnamed ?knamed ?almade ?llmade ?clmade ?klmade ?alasts ?llasts ?clasts ?klasts ?alpairs ?llpairs ?clpairs ?klpairs ?aheard ?lheard ?cheard ?kheard ?alstarts ?llstarts ?clstarts ?klstarts ?altold ?lltold ?cltold ?kltold ?alaw ?llaw ?claw ?klaw ?awhole ?lwhole ?cwhole ?kwhole ?amoment ?lmoment ?cmoment ?kmoment ?aisname ?lisname ?cisname ?kisname ?acheck ?lcheck ?ccheck ?kcheck ?achecked ?lchecked ?cchecked ?kchecked ?awithf ?lwithf ?cwithf ?kwithf ?thn ?tht ?gR ?icR ?tyR ?sbR ?aCY ?pgCY ?hdCY ?poCY ?saCY ?mkCY ?kcCY ?nCY_tool ?nCY_moment ?nCY_is_sound ?thaCY ?thmCY ?hclsCY ?htypCY ?asinit ?isinit ?lsinit ?csinit ?ksinit ?asinv ?isinv ?lsinv ?csinv ?ksinv ?aCV ?pgCV ?hdCV ?poCV ?saCV ?mkCV ?kcCV ?nCV__begun ?thaCV ?thmCV ?hclsCV ?htypCV ?avinit ?ivinit ?lvinit ?cvinit ?kvinit ?avbeg ?ivbeg ?lvbeg ?cvbeg ?kvbeg ?avlast ?ivlast ?lvlast ?cvlast ?kvlast ?avcont ?ivcont ?lvcont ?cvcont ?kvcont ?avto ?gvto ?tvto ?rvto ?lvto ?cvto ?kvto ?aC_begun ?pgC_begun ?hdC_begun ?poC_begun ?saC_begun ?mkC_begun ?kcC_begun ?nC_begun__told ?nC_begun_kind ?nC_begun_tool ?nC_begun_moment ?abegun ?ibegun ?lbegun ?cbegun ?kbegun ?thaC_begun ?thmC_begun ?artaC_begun ?irta ?lrta ?crta ?krta ?arpaC_begun ?irpa ?lrpa ?crpa ?krpa ?aptoC_begun ?gpto ?tpto ?rpto ?lpto ?cpto ?kpto ?sRC_begun ?aexbegun ?iexbegun ?lexbegun ?cexbegun ?kexbegun ?aC_setby ?pgC_setby ?hdC_setby ?poC_setby ?saC_setby ?mkC_setby ?kcC_setby ?nC_setby__told ?nC_setby_kind ?nC_setby_tool ?nC_setby_moment ?nC_setby_by ?asetby ?isetby ?lsetby ?csetby ?ksetby ?thaC_setby ?thmC_setby ?artaC_setby ?arpaC_setby ?aptoC_setby ?sRC_setby ?aexsetby ?iexsetby ?lexsetby ?cexsetby ?kexsetby ?aC_found ?pgC_found ?hdC_found ?poC_found ?saC_found ?mkC_found ?kcC_found ?nC_found__told ?nC_found_kind ?nC_found_tool ?nC_found_moment ?nC_found_is_sound ?afound ?ifound ?lfound ?cfound ?kfound ?thaC_found ?thmC_found ?artaC_found ?arpaC_found ?aptoC_found ?sRC_found ?aexfound ?iexfound ?lexfound ?cexfound ?kexfound ?aC_trusted ?pgC_trusted ?hdC_trusted ?poC_trusted ?saC_trusted ?mkC_trusted ?kcC_trusted ?nC_trusted__told ?nC_trusted_kind ?nC_trusted_tool ?atrusted ?itrusted ?ltrusted ?ctrusted ?ktrusted ?thaC_trusted ?thmC_trusted ?artaC_trusted ?arpaC_trusted ?aptoC_trusted ?sRC_trusted ?aextrusted ?iextrusted ?lextrusted ?cextrusted ?kextrusted ?aC_passed ?pgC_passed ?hdC_passed ?poC_passed ?saC_passed ?mkC_passed ?kcC_passed ?nC_passed__told ?nC_passed_kind ?nC_passed_tool ?nC_passed_moment ?nC_passed_by ?apassed ?ipassed ?lpassed ?cpassed ?kpassed ?thaC_passed ?thmC_passed ?artaC_passed ?arpaC_passed ?aptoC_passed ?sRC_passed ?aexpassed ?iexpassed ?lexpassed ?cexpassed ?kexpassed ?aC_failed ?pgC_failed ?hdC_failed ?poC_failed ?saC_failed ?mkC_failed ?kcC_failed ?nC_failed__told ?nC_failed_kind ?nC_failed_tool ?nC_failed_moment ?nC_failed_by ?afailed ?ifailed ?lfailed ?cfailed ?kfailed ?thaC_failed ?thmC_failed ?artaC_failed ?arpaC_failed ?aptoC_failed ?sRC_failed ?aexfailed ?iexfailed ?lexfailed ?cexfailed ?kexfailed ?aC_agreed ?pgC_agreed ?hdC_agreed ?poC_agreed ?saC_agreed ?mkC_agreed ?kcC_agreed ?nC_agreed__told ?nC_agreed_kind ?nC_agreed_one ?nC_agreed_moment ?nC_agreed_other ?nC_agreed_later ?aagreed ?iagreed ?lagreed ?cagreed ?kagreed ?eagreed ?dagreed ?vagreed ?wagreed ?yagreed ?zagreed ?xagreed ?lmeet ?cmeet ?kmeet ?tmeet ?fnmeet ?thaC_agreed ?thmC_agreed ?artaC_agreed ?arpaC_agreed ?aptoC_agreed ?sRC_agreed ?aexagreed ?iexagreed ?lexagreed ?cexagreed ?kexagreed ?aC_differed ?pgC_differed ?hdC_differed ?poC_differed ?saC_differed ?mkC_differed ?kcC_differed ?nC_differed__told ?nC_differed_kind ?nC_differed_one ?nC_differed_moment ?nC_differed_other ?nC_differed_later ?adiffered ?idiffered ?ldiffered ?cdiffered ?kdiffered ?ediffered ?ddiffered ?vdiffered ?wdiffered ?ydiffered ?zdiffered ?xdiffered ?thaC_differed ?thmC_differed ?artaC_differed ?arpaC_differed ?aptoC_differed ?sRC_differed ?aexdiffered ?iexdiffered ?lexdiffered ?cexdiffered ?kexdiffered ?aC_served ?pgC_served ?hdC_served ?poC_served ?saC_served ?mkC_served ?kcC_served ?nC_served__told ?nC_served_kind ?nC_served_one ?nC_served_moment ?nC_served_other ?nC_served_later ?aserved ?iserved ?lserved ?cserved ?kserved ?eserved ?dserved ?vserved ?wserved ?yserved ?zserved ?xserved ?thaC_served ?thmC_served ?artaC_served ?arpaC_served ?aptoC_served ?sRC_served ?aexserved ?iexserved ?lexserved ?cexserved ?kexserved ?aC_backed ?pgC_backed ?hdC_backed ?poC_backed ?saC_backed ?mkC_backed ?kcC_backed ?nC_backed__told ?nC_backed_kind ?nC_backed_one ?nC_backed_moment ?nC_backed_other ?nC_backed_later ?abacked ?ibacked ?lbacked ?cbacked ?kbacked ?ebacked ?dbacked ?vbacked ?wbacked ?ybacked ?zbacked ?xbacked ?thaC_backed ?thmC_backed ?artaC_backed ?arpaC_backed ?aptoC_backed ?sRC_backed ?aexbacked ?iexbacked ?lexbacked ?cexbacked ?kexbacked ?opq ?tops ?gG ?gL ?gA ?gD ?gN ?lN ?vN ?gF ?lF ?klF ?gtbegun ?ltbegun ?vtbegun ?gtsetby ?ltsetby ?vtsetby ?gtfound ?ltfound ?vtfound ?gttrusted ?lttrusted ?vttrusted ?gtpassed ?ltpassed ?vtpassed ?gtfailed ?ltfailed ?vtfailed ?gtagreed ?ltagreed ?vtagreed ?gtdiffered ?ltdiffered ?vtdiffered ?gtserved ?ltserved ?vtserved ?gtbacked ?ltbacked ?vtbacked ?b_isinstance ?b_int ?b_bool ?b_str ?b_len ?b_all ?b_list ?b_tuple ?b_abs ?b_repr ?b_zip ?b_ValueError ?b_super ?b_range ?b_sorted ?b_set ?b_max ?b_min ?b_dict ?aT ?iT ?tT ?eT ?sT ?aN ?xN ?seN ?geN ?heN ?neN ?aeN ?teN ?leN ?ceN ?keN ?kkeN ?exeN ?tyeN ?hdeN ?iceN ?veeN ?uteN ?caeN ?cmeN ?aM ?xM ?seM ?geM ?heM ?neM ?aeM ?teM ?leM ?ceM ?keM ?kkeM ?exeM ?tyeM ?hdeM ?iceM ?veeM ?uteM ?caeM ?cmeM ?aS ?xS ?seS ?geS ?heS ?neS ?aeS ?teS ?leS ?ceS ?keS ?kkeS ?exeS ?tyeS ?hdeS ?iceS ?veeS ?uteS ?caeS ?cmeS ?aO ?xO ?seO ?geO ?heO ?neO ?aeO ?teO ?leO ?ceO ?keO ?kkeO ?exeO ?tyeO ?hdeO ?iceO ?veeO ?uteO ?caeO ?cmeO ?aL ?xL ?seL ?geL ?heL ?neL ?aeL ?teL ?leL ?ceL ?keL ?kkeL ?exeL ?tyeL ?hdeL ?iceL ?veeL ?uteL ?caeL ?cmeL ?uNN ?uNM ?uNO ?uMN ?uMM ?uMO ?uON ?uOM ?uOO ?lclaw ?vclaw ?nTlaw
    (case apen => k_is)
    (case lpen => k_is)
    (case cpen => k_is)
    (case kpen => k_is)
    (case adraw => k_is)
    (case ldraw => k_is)
    (case cdraw => k_is)
    (case kdraw => k_is)
    (case apick => k_is)
    (case lpick => k_is)
    (case cpick => k_is)
    (case kpick => k_is)
    (case atick => k_is)
    (case ltick => k_is)
    (case ctick => k_is)
    (case ktick => k_is)
    (case alkinds => k_is)
    (case llkinds => k_is)
    (case clkinds => k_is)
    (case klkinds => k_is)
    (case adrawn => k_is)
    (case ldrawn => k_is)
    (case cdrawn => k_is)
    (case kdrawn => k_is)
    (case acrew => k_is)
    (case lcrew => k_is)
    (case ccrew => k_is)
    (case kcrew => k_is)
    (case anamed => k_is)
    (case lnamed => k_is)
    (case cnamed => k_is)
    (case knamed => k_is)
    (case almade => k_is)
    (case llmade => k_is)
    (case clmade => k_is)
    (case klmade => k_is)
    (case alasts => k_is)
    (case llasts => k_is)
    (case clasts => k_is)
    (case klasts => k_is)
    (case alpairs => k_is)
    (case llpairs => k_is)
    (case clpairs => k_is)
    (case klpairs => k_is)
    (case aheard => k_is)
    (case lheard => k_is)
    (case cheard => k_is)
    (case kheard => k_is)
    (case alstarts => k_is)
    (case llstarts => k_is)
    (case clstarts => k_is)
    (case klstarts => k_is)
    (case altold => k_is)
    (case lltold => k_is)
    (case cltold => k_is)
    (case kltold => k_is)
    (case alaw => k_is)
    (case llaw => k_is)
    (case claw => k_is)
    (case klaw => k_is)
    (case awhole => k_is)
    (case lwhole => k_is)
    (case cwhole => k_is)
    (case kwhole => k_is)
    (case amoment => k_is)
    (case lmoment => k_is)
    (case cmoment => k_is)
    (case kmoment => k_is)
    (case aisname => k_is)
    (case lisname => k_is)
    (case cisname => k_is)
    (case kisname => k_is)
    (case acheck => k_is)
    (case lcheck => k_is)
    (case ccheck => k_is)
    (case kcheck => k_is)
    (case achecked => k_is)
    (case lchecked => k_is)
    (case cchecked => k_is)
    (case kchecked => k_is)
    (case awithf => k_is)
    (case lwithf => k_is)
    (case cwithf => k_is)
    (case kwithf => k_is)
    (case thn => k_is)
    (case tht => k_is)
    (case gR => k_is)
    (case icR => k_is)
    (case tyR => k_is)
    (case sbR => k_is)
    (case aCY => k_is)
    (case pgCY => k_is)
    (case hdCY => k_is)
    (case poCY => k_is)
    (case saCY => k_is)
    (case mkCY => k_is)
    (case kcCY => k_is)
    (case nCY_tool => k_is)
    (case nCY_moment => k_is)
    (case nCY_is_sound => k_is)
    (case thaCY => k_is)
    (case thmCY => k_is)
    (case hclsCY => k_is)
    (case htypCY => k_is)
    (case asinit => k_is)
    (case isinit => k_is)
    (case lsinit => k_is)
    (case csinit => k_is)
    (case ksinit => k_is)
    (case asinv => k_is)
    (case isinv => k_is)
    (case lsinv => k_is)
    (case csinv => k_is)
    (case ksinv => k_is)
    (case aCV => k_is)
    (case pgCV => k_is)
    (case hdCV => k_is)
    (case poCV => k_is)
    (case saCV => k_is)
    (case mkCV => k_is)
    (case kcCV => k_is)
    (case nCV__begun => k_is)
    (case thaCV => k_is)
    (case thmCV => k_is)
    (case hclsCV => k_is)
    (case htypCV => k_is)
    (case avinit => k_is)
    (case ivinit => k_is)
    (case lvinit => k_is)
    (case cvinit => k_is)
    (case kvinit => k_is)
    (case avbeg => k_is)
    (case ivbeg => k_is)
    (case lvbeg => k_is)
    (case cvbeg => k_is)
    (case kvbeg => k_is)
    (case avlast => k_is)
    (case ivlast => k_is)
    (case lvlast => k_is)
    (case cvlast => k_is)
    (case kvlast => k_is)
    (case avcont => k_is)
    (case ivcont => k_is)
    (case lvcont => k_is)
    (case cvcont => k_is)
    (case kvcont => k_is)
    (case avto => k_is)
    (case gvto => k_is)
    (case tvto => k_is)
    (case rvto => k_is)
    (case lvto => k_is)
    (case cvto => k_is)
    (case kvto => k_is)
    (case aC_begun => k_is)
    (case pgC_begun => k_is)
    (case hdC_begun => k_is)
    (case poC_begun => k_is)
    (case saC_begun => k_is)
    (case mkC_begun => k_is)
    (case kcC_begun => k_is)
    (case nC_begun__told => k_is)
    (case nC_begun_kind => k_is)
    (case nC_begun_tool => k_is)
    (case nC_begun_moment => k_is)
    (case abegun => k_is)
    (case ibegun => k_is)
    (case lbegun => k_is)
    (case cbegun => k_is)
    (case kbegun => k_is)
    (case thaC_begun => k_is)
    (case thmC_begun => k_is)
    (case artaC_begun => k_is)
    (case irta => k_is)
    (case lrta => k_is)
    (case crta => k_is)
    (case krta => k_is)
    (case arpaC_begun => k_is)
    (case irpa => k_is)
    (case lrpa => k_is)
    (case crpa => k_is)
    (case krpa => k_is)
    (case aptoC_begun => k_is)
    (case gpto => k_is)
    (case tpto => k_is)
    (case rpto => k_is)
    (case lpto => k_is)
    (case cpto => k_is)
    (case kpto => k_is)
    (case sRC_begun => k_is)
    (case aexbegun => k_is)
    (case iexbegun => k_is)
    (case lexbegun => k_is)
    (case cexbegun => k_is)
    (case kexbegun => k_is)
    (case aC_setby => k_is)
    (case pgC_setby => k_is)
    (case hdC_setby => k_is)
    (case poC_setby => k_is)
    (case saC_setby => k_is)
    (case mkC_setby => k_is)
    (case kcC_setby => k_is)
    (case nC_setby__told => k_is)
    (case nC_setby_kind => k_is)
    (case nC_setby_tool => k_is)
    (case nC_setby_moment => k_is)
    (case nC_setby_by => k_is)
    (case asetby => k_is)
    (case isetby => k_is)
    (case lsetby => k_is)
    (case csetby => k_is)
    (case ksetby => k_is)
    (case thaC_setby => k_is)
    (case thmC_setby => k_is)
    (case artaC_setby => k_is)
    (case arpaC_setby => k_is)
    (case aptoC_setby => k_is)
    (case sRC_setby => k_is)
    (case aexsetby => k_is)
    (case iexsetby => k_is)
    (case lexsetby => k_is)
    (case cexsetby => k_is)
    (case kexsetby => k_is)
    (case aC_found => k_is)
    (case pgC_found => k_is)
    (case hdC_found => k_is)
    (case poC_found => k_is)
    (case saC_found => k_is)
    (case mkC_found => k_is)
    (case kcC_found => k_is)
    (case nC_found__told => k_is)
    (case nC_found_kind => k_is)
    (case nC_found_tool => k_is)
    (case nC_found_moment => k_is)
    (case nC_found_is_sound => k_is)
    (case afound => k_is)
    (case ifound => k_is)
    (case lfound => k_is)
    (case cfound => k_is)
    (case kfound => k_is)
    (case thaC_found => k_is)
    (case thmC_found => k_is)
    (case artaC_found => k_is)
    (case arpaC_found => k_is)
    (case aptoC_found => k_is)
    (case sRC_found => k_is)
    (case aexfound => k_is)
    (case iexfound => k_is)
    (case lexfound => k_is)
    (case cexfound => k_is)
    (case kexfound => k_is)
    (case aC_trusted => k_is)
    (case pgC_trusted => k_is)
    (case hdC_trusted => k_is)
    (case poC_trusted => k_is)
    (case saC_trusted => k_is)
    (case mkC_trusted => k_is)
    (case kcC_trusted => k_is)
    (case nC_trusted__told => k_is)
    (case nC_trusted_kind => k_is)
    (case nC_trusted_tool => k_is)
    (case atrusted => k_is)
    (case itrusted => k_is)
    (case ltrusted => k_is)
    (case ctrusted => k_is)
    (case ktrusted => k_is)
    (case thaC_trusted => k_is)
    (case thmC_trusted => k_is)
    (case artaC_trusted => k_is)
    (case arpaC_trusted => k_is)
    (case aptoC_trusted => k_is)
    (case sRC_trusted => k_is)
    (case aextrusted => k_is)
    (case iextrusted => k_is)
    (case lextrusted => k_is)
    (case cextrusted => k_is)
    (case kextrusted => k_is)
    (case aC_passed => k_is)
    (case pgC_passed => k_is)
    (case hdC_passed => k_is)
    (case poC_passed => k_is)
    (case saC_passed => k_is)
    (case mkC_passed => k_is)
    (case kcC_passed => k_is)
    (case nC_passed__told => k_is)
    (case nC_passed_kind => k_is)
    (case nC_passed_tool => k_is)
    (case nC_passed_moment => k_is)
    (case nC_passed_by => k_is)
    (case apassed => k_is)
    (case ipassed => k_is)
    (case lpassed => k_is)
    (case cpassed => k_is)
    (case kpassed => k_is)
    (case thaC_passed => k_is)
    (case thmC_passed => k_is)
    (case artaC_passed => k_is)
    (case arpaC_passed => k_is)
    (case aptoC_passed => k_is)
    (case sRC_passed => k_is)
    (case aexpassed => k_is)
    (case iexpassed => k_is)
    (case lexpassed => k_is)
    (case cexpassed => k_is)
    (case kexpassed => k_is)
    (case aC_failed => k_is)
    (case pgC_failed => k_is)
    (case hdC_failed => k_is)
    (case poC_failed => k_is)
    (case saC_failed => k_is)
    (case mkC_failed => k_is)
    (case kcC_failed => k_is)
    (case nC_failed__told => k_is)
    (case nC_failed_kind => k_is)
    (case nC_failed_tool => k_is)
    (case nC_failed_moment => k_is)
    (case nC_failed_by => k_is)
    (case afailed => k_is)
    (case ifailed => k_is)
    (case lfailed => k_is)
    (case cfailed => k_is)
    (case kfailed => k_is)
    (case thaC_failed => k_is)
    (case thmC_failed => k_is)
    (case artaC_failed => k_is)
    (case arpaC_failed => k_is)
    (case aptoC_failed => k_is)
    (case sRC_failed => k_is)
    (case aexfailed => k_is)
    (case iexfailed => k_is)
    (case lexfailed => k_is)
    (case cexfailed => k_is)
    (case kexfailed => k_is)
    (case aC_agreed => k_is)
    (case pgC_agreed => k_is)
    (case hdC_agreed => k_is)
    (case poC_agreed => k_is)
    (case saC_agreed => k_is)
    (case mkC_agreed => k_is)
    (case kcC_agreed => k_is)
    (case nC_agreed__told => k_is)
    (case nC_agreed_kind => k_is)
    (case nC_agreed_one => k_is)
    (case nC_agreed_moment => k_is)
    (case nC_agreed_other => k_is)
    (case nC_agreed_later => k_is)
    (case aagreed => k_is)
    (case iagreed => k_is)
    (case lagreed => k_is)
    (case cagreed => k_is)
    (case kagreed => k_is)
    (case eagreed => k_is)
    (case dagreed => k_is)
    (case vagreed => rfl)
    (case wagreed => rfl)
    (case yagreed => k_is)
    (case zagreed => first | k_is | kernel_rfl | rfl)
    (case xagreed => ks_is)
    (case lmeet => k_is)
    (case cmeet => k_is)
    (case kmeet => k_is)
    (case tmeet => k_is)
    (case fnmeet => k_is)
    (case thaC_agreed => k_is)
    (case thmC_agreed => k_is)
    (case artaC_agreed => k_is)
    (case arpaC_agreed => k_is)
    (case aptoC_agreed => k_is)
    (case sRC_agreed => k_is)
    (case aexagreed => k_is)
    (case iexagreed => k_is)
    (case lexagreed => k_is)
    (case cexagreed => k_is)
    (case kexagreed => k_is)
    (case aC_differed => k_is)
    (case pgC_differed => k_is)
    (case hdC_differed => k_is)
    (case poC_differed => k_is)
    (case saC_differed => k_is)
    (case mkC_differed => k_is)
    (case kcC_differed => k_is)
    (case nC_differed__told => k_is)
    (case nC_differed_kind => k_is)
    (case nC_differed_one => k_is)
    (case nC_differed_moment => k_is)
    (case nC_differed_other => k_is)
    (case nC_differed_later => k_is)
    (case adiffered => k_is)
    (case idiffered => k_is)
    (case ldiffered => k_is)
    (case cdiffered => k_is)
    (case kdiffered => k_is)
    (case ediffered => k_is)
    (case ddiffered => k_is)
    (case vdiffered => rfl)
    (case wdiffered => rfl)
    (case ydiffered => k_is)
    (case zdiffered => first | k_is | kernel_rfl | rfl)
    (case xdiffered => ks_is)
    (case thaC_differed => k_is)
    (case thmC_differed => k_is)
    (case artaC_differed => k_is)
    (case arpaC_differed => k_is)
    (case aptoC_differed => k_is)
    (case sRC_differed => k_is)
    (case aexdiffered => k_is)
    (case iexdiffered => k_is)
    (case lexdiffered => k_is)
    (case cexdiffered => k_is)
    (case kexdiffered => k_is)
    (case aC_served => k_is)
    (case pgC_served => k_is)
    (case hdC_served => k_is)
    (case poC_served => k_is)
    (case saC_served => k_is)
    (case mkC_served => k_is)
    (case kcC_served => k_is)
    (case nC_served__told => k_is)
    (case nC_served_kind => k_is)
    (case nC_served_one => k_is)
    (case nC_served_moment => k_is)
    (case nC_served_other => k_is)
    (case nC_served_later => k_is)
    (case aserved => k_is)
    (case iserved => k_is)
    (case lserved => k_is)
    (case cserved => k_is)
    (case kserved => k_is)
    (case eserved => k_is)
    (case dserved => k_is)
    (case vserved => rfl)
    (case wserved => rfl)
    (case yserved => k_is)
    (case zserved => first | k_is | kernel_rfl | rfl)
    (case xserved => ks_is)
    (case thaC_served => k_is)
    (case thmC_served => k_is)
    (case artaC_served => k_is)
    (case arpaC_served => k_is)
    (case aptoC_served => k_is)
    (case sRC_served => k_is)
    (case aexserved => k_is)
    (case iexserved => k_is)
    (case lexserved => k_is)
    (case cexserved => k_is)
    (case kexserved => k_is)
    (case aC_backed => k_is)
    (case pgC_backed => k_is)
    (case hdC_backed => k_is)
    (case poC_backed => k_is)
    (case saC_backed => k_is)
    (case mkC_backed => k_is)
    (case kcC_backed => k_is)
    (case nC_backed__told => k_is)
    (case nC_backed_kind => k_is)
    (case nC_backed_one => k_is)
    (case nC_backed_moment => k_is)
    (case nC_backed_other => k_is)
    (case nC_backed_later => k_is)
    (case abacked => k_is)
    (case ibacked => k_is)
    (case lbacked => k_is)
    (case cbacked => k_is)
    (case kbacked => k_is)
    (case ebacked => k_is)
    (case dbacked => k_is)
    (case vbacked => rfl)
    (case wbacked => rfl)
    (case ybacked => k_is)
    (case zbacked => first | k_is | kernel_rfl | rfl)
    (case xbacked => ks_is)
    (case thaC_backed => k_is)
    (case thmC_backed => k_is)
    (case artaC_backed => k_is)
    (case arpaC_backed => k_is)
    (case aptoC_backed => k_is)
    (case sRC_backed => k_is)
    (case aexbacked => k_is)
    (case iexbacked => k_is)
    (case lexbacked => k_is)
    (case cexbacked => k_is)
    (case kexbacked => k_is)
    (case opq => k_is)
    (case tops => rfl)
    (case gG => k_is)
    (case gL => k_is)
    (case gA => k_is)
    (case gD => k_is)
    (case gN => k_is)
    (case lN => k_is)
    (case vN => rfl)
    (case gF => k_is)
    (case lF => k_is)
    (case klF => exact ⟨⟨_, _, rfl, rfl⟩, ⟨_, _, rfl, rfl⟩, ⟨_, _, rfl, rfl⟩, ⟨_, _, rfl, rfl⟩, ⟨_, _, rfl, rfl⟩, ⟨_, _, rfl, rfl⟩, ⟨_, _, rfl, rfl⟩, ⟨_, _, rfl, rfl⟩, ⟨_, _, rfl, rfl⟩, ⟨_, _, rfl, rfl⟩, trivial⟩)
    (case gtbegun => k_is)
    (case ltbegun => k_is)
    (case vtbegun => rfl)
    (case gtsetby => k_is)
    (case ltsetby => k_is)
    (case vtsetby => rfl)
    (case gtfound => k_is)
    (case ltfound => k_is)
    (case vtfound => rfl)
    (case gttrusted => k_is)
    (case lttrusted => k_is)
    (case vttrusted => rfl)
    (case gtpassed => k_is)
    (case ltpassed => k_is)
    (case vtpassed => rfl)
    (case gtfailed => k_is)
    (case ltfailed => k_is)
    (case vtfailed => rfl)
    (case gtagreed => k_is)
    (case ltagreed => k_is)
    (case vtagreed => rfl)
    (case gtdiffered => k_is)
    (case ltdiffered => k_is)
    (case vtdiffered => rfl)
    (case gtserved => k_is)
    (case ltserved => k_is)
    (case vtserved => rfl)
    (case gtbacked => k_is)
    (case ltbacked => k_is)
    (case vtbacked => rfl)
    (case b_isinstance => k_is)
    (case b_int => k_is)
    (case b_bool => k_is)
    (case b_str => k_is)
    (case b_len => k_is)
    (case b_all => k_is)
    (case b_list => k_is)
    (case b_tuple => k_is)
    (case b_abs => k_is)
    (case b_repr => k_is)
    (case b_zip => k_is)
    (case b_ValueError => k_is)
    (case b_super => k_is)
    (case b_range => k_is)
    (case b_sorted => k_is)
    (case b_set => k_is)
    (case b_max => k_is)
    (case b_min => k_is)
    (case b_dict => k_is)
    (case aT => k_is)
    (case iT => k_is)
    (case tT => k_is)
    (case eT => k_is)
    (case sT => k_is)
    (case aN => k_is)
    (case xN => k_is)
    (case seN => k_is)
    (case geN => k_is)
    (case heN => k_is)
    (case neN => k_is)
    (case aeN => k_is)
    (case teN => k_is)
    (case leN => k_is)
    (case ceN => k_is)
    (case keN => k_is)
    (case kkeN => k_is)
    (case exeN => k_is)
    (case tyeN => k_is)
    (case hdeN => k_is)
    (case iceN => k_is)
    (case veeN => k_is)
    (case uteN => k_is)
    (case caeN => k_is)
    (case cmeN => k_is)
    (case aM => k_is)
    (case xM => k_is)
    (case seM => k_is)
    (case geM => k_is)
    (case heM => k_is)
    (case neM => k_is)
    (case aeM => k_is)
    (case teM => k_is)
    (case leM => k_is)
    (case ceM => k_is)
    (case keM => k_is)
    (case kkeM => k_is)
    (case exeM => k_is)
    (case tyeM => k_is)
    (case hdeM => k_is)
    (case iceM => k_is)
    (case veeM => k_is)
    (case uteM => k_is)
    (case caeM => k_is)
    (case cmeM => k_is)
    (case aS => k_is)
    (case xS => k_is)
    (case seS => k_is)
    (case geS => k_is)
    (case heS => k_is)
    (case neS => k_is)
    (case aeS => k_is)
    (case teS => k_is)
    (case leS => k_is)
    (case ceS => k_is)
    (case keS => k_is)
    (case kkeS => k_is)
    (case exeS => k_is)
    (case tyeS => k_is)
    (case hdeS => k_is)
    (case iceS => k_is)
    (case veeS => k_is)
    (case uteS => k_is)
    (case caeS => k_is)
    (case cmeS => k_is)
    (case aO => k_is)
    (case xO => k_is)
    (case seO => k_is)
    (case geO => k_is)
    (case heO => k_is)
    (case neO => k_is)
    (case aeO => k_is)
    (case teO => k_is)
    (case leO => k_is)
    (case ceO => k_is)
    (case keO => k_is)
    (case kkeO => k_is)
    (case exeO => k_is)
    (case tyeO => k_is)
    (case hdeO => k_is)
    (case iceO => k_is)
    (case veeO => k_is)
    (case uteO => k_is)
    (case caeO => k_is)
    (case cmeO => k_is)
    (case aL => k_is)
    (case xL => k_is)
    (case seL => k_is)
    (case geL => k_is)
    (case heL => k_is)
    (case neL => k_is)
    (case aeL => k_is)
    (case teL => k_is)
    (case leL => k_is)
    (case ceL => k_is)
    (case keL => k_is)
    (case kkeL => k_is)
    (case exeL => k_is)
    (case tyeL => k_is)
    (case hdeL => k_is)
    (case iceL => k_is)
    (case veeL => k_is)
    (case uteL => k_is)
    (case caeL => k_is)
    (case cmeL => k_is)
    (case uNN => k_is)
    (case uNM => k_is)
    (case uNO => k_is)
    (case uMN => k_is)
    (case uMM => k_is)
    (case uMO => k_is)
    (case uON => k_is)
    (case uOM => k_is)
    (case uOO => k_is)
    (case lclaw => k_is)
    (case vclaw => rfl)
    (case nTlaw => first | kernel_rfl | rfl)
