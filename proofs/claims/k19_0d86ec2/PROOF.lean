import PyProof.Rows.All
import Wide.All
import OpenK.AllK
import Wide.FinOn
import HandS.HeadNt
import HandS.HeadEnd
import HandS.Head2
import HandS.ExcInit
import HandS.ExcIs
import HandS.ExcField
import PySem.Challenge.RW_filledrow_k19_orders_reckoned
import HandS.Base
import HandS.Call
import HandS.List
import HandS.Ends
import HandS.Words
import HandS.WordsList
import HandS.IsInst
import HandS.StrMore
import HandS.Text
import HandS.Flow
import HandS.Defaults
import HandS.Exc
import HandS.ForMost
import HandS.ExcOwn
import HandS.ExcValue
import HandS.RaiseMore
import PyProof.ReprRoads
import PyProof.CallFns
import KE.IntTextLaws
import HandS.Style
import HandS.Star
import HandS.Codes
import HandS.Wide
import HandS.WideBits
import PyProof.Rows.RegStrFacts
import PyProof.Rows.StrJoinMade
import HandS.Walk
import HandS.Iter
import HandS.Comp
import HandS.DictComp
import PyProof.Rows.StrMeet
import HandS.Conv
import HandS.Dict
import HandS.More
import KE.KParD
import PyProof.DictUpdate
import KE.KStar
import HandS.MakeKw
import HandS.ClsMeth
import HandS.Sort
import HandS.FStr
import PyProof.StrLawsChain
import HandS.WordsExc
import HandS.Steps
import HandS.SortKw
import KE.SortData
import KE.KEqDict
import PyProof.DictFindH
import PyProof.StrLawsRepr
import KE.KDictWalk
import KE.KCallOwn
import KE.KOpsOwn
import KE.KOwnIter
import HandS.IterVal
import PyProof.WalksMore
import PyProof.StrBlock2
import HandS.TupSets
import HandS.Strs
import HandS.OwnIter
import HandS.Records
import OpenK.KOps
import KE.KFmtOwn
import PyProof.TwoTypes
import HandS.TupAny
import HandS.Deep
import HandS.Lambda
set_option Elab.async false
set_option linter.all false
set_option maxRecDepth 100000
set_option maxHeartbeats 4000000
/-! The head by three kernel runs, each a theorem of its own: the looks, the view, the facts of the objects at told addresses. -/
noncomputable section
namespace Hk
open PySem PySem.W PyProof.Rows
/-- the module's dict, the objects at told addresses -/
def fr (as : List Addr) (g : Addr → Option Obj) : Frag := He.frG g as
/-- what the head tells of K -/
structure Told (fa : List He.Fa) (fn : List He5.DefA) (ex : List (Frag → Bool)) (K : Frag) : Prop where
  d : He5.SaysA fa fn K
  m : (ex.all fun b => b K) = true
theorem Told.ex {fa : List He.Fa} {fn : List He5.DefA} {ex : List (Frag → Bool)} {K : Frag} (T : Told fa fn ex K) (i : Nat) {b : Frag → Bool} (h : ex[i]? = some b := by rfl) : b K = true :=
  List.all_eq_true.mp T.m b (List.mem_of_getElem? h)
/-- the Hook of it -/
def hk (as : List Addr) (fa : List He.Fa) (fn : List He5.DefA) (ex : List (Frag → Bool)) : Hook where
  α := He.AlD × Bool
  obs := fun s => (He5.obsA fa fn (fr as s.heap.get?), ex.all fun b => b (fr as s.heap.get?))
  val := fun _ => (He5.valA fn, true)
  says := fun _ h => ∃ K : Frag, K.In h ∧ Told fa fn ex K
  of := fun _ _ e => ⟨_, He.frG_in, congrArg (fun z : He.AlD × Bool => z.1) e, congrArg (fun z : He.AlD × Bool => z.2) e⟩
  keeps := fun _ _ _ y k => let ⟨K, i, t⟩ := y; ⟨K, Frag.In.keeps i k, t⟩
/-- several looks at one run -/
theorem run2 {α β γ : Type} {o : Option α} {f : α → β} {g : α → γ} {b : β} {c : γ} (h1 : o.map f = some b) (h2 : o.map g = some c) : o.map (fun s => (f s, g s)) = some (b, c) := by
  cases o with
  | none => cases h1
  | some s =>
    cases h1
    cases h2
    rfl
/-- the run, its end -/
abbrev endR (r : OpenRow) (M : Nat) (w : World) (os : OsState) : Option SharedT := HandSHeadRun.endF (HandSHeadRun.stepQ (HandSHeadRun.denQ HandSHeadRun.tabQ) r.prog w) M r.prog w os
def RunA (r : OpenRow) (M : Nat) : Prop := ∀ (w : World) (os : OsState), (endR r M w os).map (fun s => HandSHeadRun.looksF r.prog (boot_heap w.params) s.abs) = some true
def RunB (r : OpenRow) (M : Nat) (q : Program) (loose : List PySem.Str) : Prop :=
  ∀ (w : World) (os : OsState), (endR r M w os).map (fun s => HandSHeadRun.seenQ q loose (importedModules r.prog.main.body) (fun s => xlAt q [] s && recOk r.toRowW.records s) s.abs) = some (openGood q loose)
def RunC (r : OpenRow) (M : Nat) (as : List Addr) (fa : List He.Fa) (fn : List He5.DefA) : Prop :=
  ∀ (w : World) (os : OsState), (endR r M w os).map (fun s => He5.obsA fa fn (fr as (HandSHeadRun.getT s))) = some (He5.valA fn)
def RunD (r : OpenRow) (M : Nat) (as : List Addr) (ex : List (Frag → Bool)) : Prop :=
  ∀ (w : World) (os : OsState), (endR r M w os).map (fun s => ex.all fun b => b (fr as (HandSHeadRun.getT s))) = some true
theorem RunEqOf {r : OpenRow} {q : Program} {M : Nat} {loose : List PySem.Str} {as : List Addr} {fa : List He.Fa} {fn : List He5.DefA} {ex : List (Frag → Bool)} (a : RunA r M) (b : RunB r M q loose) (c : RunC r M as fa fn) (d : RunD r M as ex) (w : World) :
    HandSHeadRun.RunEq r q (hk as fa fn ex) (fun s => (He5.obsA fa fn (fr as (HandSHeadRun.getT s)), ex.all fun b => b (fr as (HandSHeadRun.getT s)))) M loose w := fun os =>
  run2 (a w os) (run2 (b w os) (run2 (c w os) (d w os)))
theorem ob_eq {as : List Addr} {fa : List He.Fa} {fn : List He5.DefA} {ex : List (Frag → Bool)} (s : SharedT) :
    (He5.obsA fa fn (fr as (HandSHeadRun.getT s)), ex.all fun b => b (fr as (HandSHeadRun.getT s))) = (hk as fa fn ex).obs s.abs := by
  have e : HandSHeadRun.getT s = s.abs.heap.get? := funext fun a => HandSHeadRun.getT_eq s a
  rw [e]
  rfl
/-! ### facts that the kit's words do not hold -/
theorem bb {a b : Bool} (h : (a && b) = true) : a = true ∧ b = true := Bool.and_eq_true_iff.mp h
/-- an error's class -/
def errB (K : Frag) (C : Addr) : Bool := (match K.lookup C with
    | some ⟨.type T, _, .cls cd, sl⟩ => decide (T = "type") && ((match cd.mro with
      | .ref D :: bm => decide (D = C) && PySem.HandSPX.refsVE bm
      | _ => false) && ((match sl.toList with
      | [_, _, _, _, some (.builtin n), _] => decide (n = "ValueError.__new__")
      | _ => false) && (cd.hasDict && !cd.hasDel)))
    | _ => false) && (decide (findIn K (.ref C) "__setattr__" = some (some (.builtin "object.__setattr__"))) && (decide (subIn K (.ref C) (.type "BaseException") = some true) &&
    (decide (typeIn K (.ref C) = some (.type "type")) && keepIn K (.ref C))))
theorem errB_ok {K : Frag} {C : Addr} (h : errB K C = true) : L2.OexC K C := by
  obtain ⟨h1, h2⟩ := bb h
  obtain ⟨h2, h3⟩ := bb h2
  obtain ⟨h3, h4⟩ := bb h3
  obtain ⟨h4, h5⟩ := bb h4
  refine ⟨?_, of_decide_eq_true h2, of_decide_eq_true h3, of_decide_eq_true h4, h5⟩
  clear h2 h3 h4 h5
  split at h1
  · rename_i T dd cd sl e
    obtain ⟨t1, h1⟩ := bb h1
    obtain ⟨t2, h1⟩ := bb h1
    obtain ⟨t3, h1⟩ := bb h1
    obtain ⟨t4, t5⟩ := bb h1
    obtain ⟨nm, bs, mro, ns, qn, hd, sn, sub, ab, col, del⟩ := cd
    cases of_decide_eq_true t1
    have t4' : hd = true := t4
    have t5' : del = false := by
      have z : (!del) = true := t5
      cases del
      · rfl
      · cases z
    subst t4' t5'
    cases mro with
    | nil => cases t2
    | cons m bm =>
      cases m with
      | ref D =>
        obtain ⟨u1, u2⟩ := bb (show (decide (D = C) && PySem.HandSPX.refsVE bm) = true from t2)
        cases of_decide_eq_true u1
        obtain ⟨l⟩ := sl
        match l, t3 with
        | [k0, k1, k2, k3, some (.builtin n), k5], t3 =>
          cases of_decide_eq_true (show decide (n = "ValueError.__new__") = true from t3)
          exact ⟨nm, qn, ns, bs, bm, sn, sub, ab, col, dd, k0, k1, k2, k3, k5, e, u2⟩
      | _ => cases t2
  · cases h1
/-- the tuple at a holds just these -/
def tupAt (K : Frag) (a : Addr) (vs : List L2.V) : Bool := match K.lookup a with
  | some ⟨.type T, _, .seq its _, _⟩ => decide (T = "tuple") && (decide (its.size ≤ sizeLine) && He.relAll vs its.toList)
  | _ => false
theorem tupAt_ok {K : Frag} {a : Addr} {vs : List L2.V} (h : tupAt K a vs = true) (H : L2.Hp) : L2.SqT K H a vs := by
  unfold tupAt at h
  split at h
  · rename_i T dd its n sl e
    obtain ⟨t1, h⟩ := bb h
    obtain ⟨t2, t3⟩ := bb h
    cases of_decide_eq_true t1
    exact .inr ⟨_, its, n, e, rfl, rfl, of_decide_eq_true t2, He.relAll_ok t3⟩
  · cases h
/-- reading a class -/
def readB (K : Frag) (C : Addr) : Bool := readsIn K C (.type "type") && decide (specialIn K (.ref C) "__getattribute__" = some (some (.builtin "type.__getattribute__")))
theorem readB_ok {K : Frag} {C : Addr} (h : readB K C = true) : ClX.CRead K C (.type "type") := by
  obtain ⟨h1, h2⟩ := bb h
  exact ⟨h1, of_decide_eq_true h2⟩
/-- a class's method m by its class, at the address where the record says -/
abbrev cmAt (K : Frag) (C : Addr) (m : PySem.Str) : Addr := He5.wf K C "classmethod" m
def cmB (K : Frag) (C : Addr) (m : PySem.Str) : Bool := He5.wrapB K C "classmethod" "classmethod.__get__" m && fnIn K (cmAt K C m)
theorem cmB_ok {K : Frag} {C : Addr} {m : PySem.Str} (h : cmB K C m = true) : ClX.CMet K C (.type "type") m (He.ma K C m) (cmAt K C m) := by
  obtain ⟨h1, h2⟩ := bb h
  exact He5.cmet_of h1 h2
/-- isinstance of own instances -/
def insB (K : Frag) (C : Addr) : Bool := decide (findIn K (.ref C) "__class__" = some (some (.builtin "object.__class__"))) && (decide (specialIn K (.builtin "object.__class__") "__get__" = some (some (.builtin "getset_descriptor.__get__"))) &&
  (decide (takesIn K (.builtin "object.__class__") = some true) && decide (mroIn K C (.type "object") = some true)))
theorem insB_ok {K : Frag} {C : Addr} (h : insB K C = true) : findIn K (.ref C) "__class__" = some (some (.builtin "object.__class__")) ∧ specialIn K (.builtin "object.__class__") "__get__" = some (some (.builtin "getset_descriptor.__get__")) ∧
    takesIn K (.builtin "object.__class__") = some true ∧ mroIn K C (.type "object") = some true := by
  obtain ⟨h1, h⟩ := bb h
  obtain ⟨h2, h⟩ := bb h
  obtain ⟨h3, h4⟩ := bb h
  exact ⟨of_decide_eq_true h1, of_decide_eq_true h2, of_decide_eq_true h3, of_decide_eq_true h4⟩
/-- what is asked of an error's class besides: it is a FillError, its fields are no class's names -/
def errF (K : Frag) (CF C f : Addr) (n1 n2 : PySem.Str) : Bool :=
  L2.xfB K C && (decide (findIn K (.ref C) "__class__" = some (some (.builtin "object.__class__"))) && (decide (specialIn K (.builtin "object.__class__") "__get__" = some (some (.builtin "getset_descriptor.__get__"))) &&
  (decide (takesIn K (.builtin "object.__class__") = some true) && (decide (mroIn K C (.type "object") = some true) && (decide (typeIn K (.ref f) = some (.type "function")) &&
  (decide (findIn K (.ref C) n1 = some none) && (decide (findIn K (.ref C) n2 = some none) && decide (exmOne K (.ref C) (.ref CF) = some true))))))))
theorem errF_ok {K : Frag} {CF C f : Addr} {n1 n2 : PySem.Str} (h : errF K CF C f n1 n2 = true) : L2.XfC K C ∧ L2.ExcC K C ∧ typeIn K (.ref f) = some (.type "function") ∧ findIn K (.ref C) n1 = some none ∧ findIn K (.ref C) n2 = some none ∧ exmOne K (.ref C) (.ref CF) = some true := by
  obtain ⟨h1, h⟩ := bb h
  obtain ⟨h2, h⟩ := bb h
  obtain ⟨h3, h⟩ := bb h
  obtain ⟨h4, h⟩ := bb h
  obtain ⟨h5, h⟩ := bb h
  obtain ⟨h6, h⟩ := bb h
  obtain ⟨h7, h⟩ := bb h
  obtain ⟨h8, h9⟩ := bb h
  have z := L2.xfB_ok h1
  exact ⟨z, ⟨z.ga, z.gg, z.exC, z.hdC, of_decide_eq_true h2, of_decide_eq_true h3, of_decide_eq_true h4, of_decide_eq_true h5⟩, of_decide_eq_true h6, of_decide_eq_true h7, of_decide_eq_true h8, of_decide_eq_true h9⟩
/-- no sign in place of its own -/
def noInB (K : Frag) (C : Addr) (nm : String) : Bool := (match clsIn K C with
    | some cd => decide (cd.mro = [.ref C, .type "object"])
    | none => false) && (decide (findIn K (.ref C) (dunderI nm) = some none) && decide (findIn K (.type "object") (dunderI nm) = some none))
theorem noInB_ok {K : Frag} {C : Addr} {nm : String} (h : noInB K C nm = true) : (∃ cd, clsIn K C = some cd ∧ cd.mro = [.ref C, .type "object"]) ∧ findIn K (.ref C) (dunderI nm) = some none ∧ findIn K (.type "object") (dunderI nm) = some none := by
  obtain ⟨h1, h⟩ := bb h
  obtain ⟨h2, h3⟩ := bb h
  refine ⟨?_, of_decide_eq_true h2, of_decide_eq_true h3⟩
  clear h2 h3
  split at h1
  · rename_i cd e
    exact ⟨cd, e, of_decide_eq_true h1⟩
  · cases h1
end Hk
end

set_option Elab.async false
set_option linter.all false
set_option maxRecDepth 100000
set_option maxHeartbeats 0
/-! The head of this law: the view, the facts that are asked, the runs. -/
noncomputable section
namespace Hd
open PySem PySem.W PyProof.Rows L2
abbrev R : OpenRow := OpenLaw.row PySem.Challenge.rw_filledrow_k19_orders_reckoned
def top (i : Nat) : Stmt := PySem.Challenge.pw_filledrow_k19_orders_reckoned.main.body.getD i (.Pass ⟨0, 0, 0, 0⟩)
def inC (i j : Nat) : Stmt := match top i with
  | .ClassDef _ _ _ b _ _ _ _ _ _ _ => b.getD j (.Pass ⟨0, 0, 0, 0⟩)
  | _ => .Pass ⟨0, 0, 0, 0⟩
def q : Program := view R.prog [0, 2, 3, 4, 5, 6, 7, 8, 9, 10, 11, 12, 14, 15, 16, 18, 19, 20, 21, 22, 23, 25, 26, 27, 28, 29, 31, 33, 34, 38, 39, 40, 41, 42, 43, 45, 47, 48, 49, 50, 52, 53, 54, 55, 56, 57, 58, 59, 60, 61, 62, 63]
def loose : List PySem.Str := ["is_integer", "Words", "check_other_sides", "Side", "take_amounts", "check_other_fillings", "Filling", "check_other_orders", "Order"]
def as0 : List Addr := [2, 3, 15, 17, 18, 20, 21, 22, 29, 30, 31, 32, 35, 42, 44, 45, 47, 48, 49, 50, 51, 54, 61, 63, 64, 66, 67, 68, 69, 70, 73, 80, 82, 83, 85, 86, 87, 88, 89, 92]
def as1 : List Addr := [99, 101, 102, 104, 105, 106, 107, 108, 111, 118, 120, 121, 123, 124, 125, 126, 127, 130, 137, 139, 140, 142, 143, 144, 145, 146, 149, 156, 158, 159, 161, 162, 163, 164, 165, 168, 175, 177, 178, 180]
def as2 : List Addr := [181, 182, 183, 184, 187, 194, 196, 197, 199, 200, 201, 202, 203, 206, 213, 215, 216, 218, 219, 220, 221, 222, 225, 226, 227, 229, 230, 232, 233, 234, 236, 237, 239, 240, 241, 243, 244, 246, 247, 248]
def as3 : List Addr := [250, 251, 253, 254, 255, 257, 258, 260, 261, 262, 264, 265, 267, 268, 269, 271, 272, 274, 275, 276, 278, 279, 281, 282, 283, 285, 286, 288, 289, 290, 292, 293, 295, 296, 304, 306, 307, 309, 310, 311]
def as4 : List Addr := [313, 314, 316, 317, 318, 320, 321, 323, 324, 325, 327, 328, 330, 331, 332, 334, 335, 337, 338, 339, 340, 342, 343, 345, 346, 347, 348, 349, 351, 352, 354, 355, 356, 358, 359, 361, 362, 363, 364, 366]
def as5 : List Addr := [367, 369, 370, 371, 373, 374, 376, 377, 378, 379, 380, 381, 382, 385, 387, 388, 390, 391, 392, 394, 395, 397, 398, 406, 409, 410, 411, 413, 414, 416, 417, 418, 419, 420, 421, 423, 424, 426, 427, 428]
def as6 : List Addr := [430, 431, 433, 434, 435, 437, 438, 440, 441, 442, 444, 445, 447, 448, 449, 452, 453, 454, 457, 458, 459, 462, 463, 464, 467, 468, 469, 472, 473, 474, 476, 477, 479, 480, 481, 484, 485, 486, 489, 490]
def as7 : List Addr := [491, 494, 495, 496, 498, 499, 501, 502, 503, 505, 506, 508, 509, 510, 512, 513, 515, 516, 517, 520, 521, 522, 524, 525, 527, 528, 529, 530, 531, 532, 533, 534, 535, 536, 539, 540, 542, 543, 545, 546]
def as8 : List Addr := [547, 549, 550, 552, 553, 554, 556, 557, 559, 560, 561, 563, 564, 566, 567, 568, 570, 571, 573, 574, 582, 585, 586, 587, 589, 590, 592, 593, 594, 596, 597, 599, 600, 601, 603, 604, 606, 607, 608, 610]
def as9 : List Addr := [611, 613, 614, 615, 617, 618, 620, 621, 622, 624, 625, 627, 628, 629, 631, 632, 634, 635, 636, 639, 640, 641, 644, 645, 646, 649, 650, 651, 654, 655, 656, 659, 660, 661, 663, 664, 666, 667, 668, 671]
def as10 : List Addr := [672, 673, 676, 677, 678, 681, 682, 683, 686, 687, 688, 690, 691, 693, 694, 695, 697, 698, 700, 701, 702, 705, 706, 707, 709, 710, 712, 713, 714, 715, 716, 717, 718, 719, 720, 721, 724, 726, 727, 729]
def as11 : List Addr := [730, 731, 734, 735, 736, 738, 739, 741, 742, 743, 745, 746, 748, 749, 757, 759, 760, 762, 763, 764, 766, 767, 769, 770, 771, 772, 773, 774, 776, 777, 779, 780, 781, 783, 784, 786, 787, 788, 790, 791]
def as12 : List Addr := [793, 794, 795, 797, 798, 800, 801, 802, 804, 805, 807, 808, 809, 812, 813, 814, 816, 817, 819, 820, 821, 824, 825, 826, 829, 830, 831, 834, 835, 836, 839, 840, 841, 844, 845, 846, 849, 850, 851, 853]
def as13 : List Addr := [854, 856, 857, 858, 861, 862, 863, 865, 866, 868, 869, 870, 871, 872, 873, 875, 876, 878, 879, 880, 881, 882, 883, 885, 886, 888, 889, 890, 891, 892, 893, 894, 895, 896, 897, 900, 902, 903, 905, 906]
def as14 : List Addr := [907, 909, 910, 912, 913, 914, 916, 917, 919, 920, 921, 923, 924, 926, 927, 928, 931, 932, 933, 935, 936, 938, 939, 940, 942, 943, 945, 946, 947, 949, 950, 952, 953, 954, 957, 958, 959, 962, 963, 964]
def as15 : List Addr := [967, 968, 969, 971, 972, 974, 975]
def as : List Addr := as0 ++ as1 ++ as2 ++ as3 ++ as4 ++ as5 ++ as6 ++ as7 ++ as8 ++ as9 ++ as10 ++ as11 ++ as12 ++ as13 ++ as14 ++ as15
abbrev FN0 : He5.DefA := ⟨fun K => He.ga K "is_name", "is_name", "is_name", defArgs (top 19), defBody (top 19), defScope (top 19), [], []⟩
abbrev FN1 : He5.DefA := ⟨fun K => He.ga K "is_pair", "is_pair", "is_pair", defArgs (top 20), defBody (top 20), defScope (top 20), [], []⟩
abbrev FN2 : He5.DefA := ⟨fun K => He.ga K "is_row", "is_row", "is_row", defArgs (top 21), defBody (top 21), defScope (top 21), [], []⟩
abbrev FN3 : He5.DefA := ⟨fun K => He.ga K "check_pairs", "check_pairs", "check_pairs", defArgs (top 47), defBody (top 47), defScope (top 47), [], []⟩
abbrev FN4 : He5.DefA := ⟨fun K => He.ga K "check_other_orders", "check_other", "check_other", defArgs (top 48), defBody (top 48), defScope (top 48), [], []⟩
abbrev FN5 : He5.DefA := ⟨fun K => He.ga K "_law_pen", "_law_pen", "_law_pen", defArgs (top 52), defBody (top 52), defScope (top 52), [], []⟩
abbrev FN6 : He5.DefA := ⟨fun K => He.ga K "_law_draw", "_law_draw", "_law_draw", defArgs (top 53), defBody (top 53), defScope (top 53), [], []⟩
abbrev FN7 : He5.DefA := ⟨fun K => He.ga K "_law_pick", "_law_pick", "_law_pick", defArgs (top 54), defBody (top 54), defScope (top 54), [], []⟩
abbrev FN8 : He5.DefA := ⟨fun K => He.ga K "_law_mixed", "_law_mixed", "_law_mixed", defArgs (top 55), defBody (top 55), defScope (top 55), [], []⟩
abbrev FN9 : He5.DefA := ⟨fun K => He.ga K "_law_row", "_law_row", "_law_row", defArgs (top 56), defBody (top 56), defScope (top 56), [], []⟩
abbrev FN10 : He5.DefA := ⟨fun K => He.ga K "_law_joined", "_law_joined", "_law_joined", defArgs (top 57), defBody (top 57), defScope (top 57), [], []⟩
abbrev FN11 : He5.DefA := ⟨fun K => He.ga K "_law_is_within", "_law_is_within", "_law_is_within", defArgs (top 58), defBody (top 58), defScope (top 58), [], []⟩
abbrev FN12 : He5.DefA := ⟨fun K => He.ga K "_law_bound", "_law_bound", "_law_bound", defArgs (top 59), defBody (top 59), defScope (top 59), [], []⟩
abbrev FN13 : He5.DefA := ⟨fun K => He.ga K "_law_near", "_law_near", "_law_near", defArgs (top 60), defBody (top 60), defScope (top 60), [], []⟩
abbrev FN14 : He5.DefA := ⟨fun K => He.ga K "_law_signs_right", "_law_signs_right", "_law_signs_right", defArgs (top 61), defBody (top 61), defScope (top 61), [], []⟩
abbrev FN15 : He5.DefA := ⟨fun K => He.ga K "_law_places_right", "_law_places_right", "_law_places_right", defArgs (top 62), defBody (top 62), defScope (top 62), [], []⟩
abbrev FN16 : He5.DefA := ⟨fun K => He.ga K "law", "law", "law", defArgs (top 63), defBody (top 63), defScope (top 63), [], []⟩
abbrev FN17 : He5.DefA := ⟨fun K => He.ga K "is_integer", "is_integer", "is_integer", defArgs (top 17), defBody (top 17), defScope (top 17), [.non], []⟩
abbrev FN18 : He5.DefA := ⟨fun K => He.ma K (He.ga K "Order") "__init__", "__init__", "Order.__init__", defArgs (inC 50 0), defBody (inC 50 0), defScope (inC 50 0), [], []⟩
abbrev FN19 : He5.DefA := ⟨fun K => He.ma K (He.ga K "Order") "__len__", "__len__", "Order.__len__", defArgs (inC 50 2), defBody (inC 50 2), defScope (inC 50 2), [], []⟩
abbrev FN20 : He5.DefA := ⟨fun K => He.ma K (He.ga K "Order") "__iter__", "__iter__", "Order.__iter__", defArgs (inC 50 3), defBody (inC 50 3), defScope (inC 50 3), [], []⟩
abbrev FN21 : He5.DefA := ⟨fun K => He.ma K (He.ga K "Order") "__eq__", "__eq__", "Order.__eq__", defArgs (inC 50 15), defBody (inC 50 15), defScope (inC 50 15), [], []⟩
abbrev FN22 : He5.DefA := ⟨fun K => He.ma K (He.ga K "Order") "__add__", "__add__", "Order.__add__", defArgs (inC 50 8), defBody (inC 50 8), defScope (inC 50 8), [], []⟩
abbrev FN23 : He5.DefA := ⟨fun K => He.ma K (He.ga K "Order") "__sub__", "__sub__", "Order.__sub__", defArgs (inC 50 9), defBody (inC 50 9), defScope (inC 50 9), [], []⟩
abbrev FN24 : He5.DefA := ⟨fun K => He.ma K (He.ga K "Order") "__and__", "__and__", "Order.__and__", defArgs (inC 50 10), defBody (inC 50 10), defScope (inC 50 10), [], []⟩
abbrev FN25 : He5.DefA := ⟨fun K => He.ma K (He.ga K "Order") "__le__", "__le__", "Order.__le__", defArgs (inC 50 11), defBody (inC 50 11), defScope (inC 50 11), [], []⟩
abbrev FN26 : He5.DefA := ⟨fun K => He.ma K (He.ga K "Order") "__invert__", "__invert__", "Order.__invert__", defArgs (inC 50 12), defBody (inC 50 12), defScope (inC 50 12), [], []⟩
abbrev FN27 : He5.DefA := ⟨fun K => He.ma K (He.ga K "Order") "place", "place", "Order.place", defArgs (inC 50 6), defBody (inC 50 6), defScope (inC 50 6), [], []⟩
abbrev FN28 : He5.DefA := ⟨fun K => He.ma K (He.ga K "Order") "moved", "moved", "Order.moved", defArgs (inC 50 7), defBody (inC 50 7), defScope (inC 50 7), [], []⟩
abbrev FN29 : He5.DefA := ⟨fun K => He.ma K (He.ga K "Order") "reduced", "reduced", "Order.reduced", defArgs (inC 50 13), defBody (inC 50 13), defScope (inC 50 13), [], []⟩
abbrev FN30 : He5.DefA := ⟨fun K => Hk.cmAt K (He.ga K "Order") "of", "of", "Order.of", defArgs (inC 50 1), defBody (inC 50 1), defScope (inC 50 1), [], []⟩
abbrev FN31 : He5.DefA := ⟨fun K => He.ma K (He.ga K "BadOrder") "__init__", "__init__", "BadOrder.__init__", defArgs (inC 8 0), defBody (inC 8 0), defScope (inC 8 0), [], []⟩
abbrev FN32 : He5.DefA := ⟨fun K => He.ma K (He.ga K "TooMany") "__init__", "__init__", "TooMany.__init__", defArgs (inC 12 0), defBody (inC 12 0), defScope (inC 12 0), [], []⟩
abbrev FN : List He5.DefA := [FN0, FN1, FN2, FN3, FN4, FN5, FN6, FN7, FN8, FN9, FN10, FN11, FN12, FN13, FN14, FN15, FN16, FN17, FN18, FN19, FN20, FN21, FN22, FN23, FN24, FN25, FN26, FN27, FN28, FN29, FN30, FN31, FN32]
abbrev FA : List He.Fa := [.glo "is_name", .glo "is_pair", .glo "is_row", .glo "check_pairs", .glo "check_other_orders", .glo "_law_pen", .glo "_law_draw", .glo "_law_pick", .glo "_law_mixed", .glo "_law_row", .glo "_law_joined", .glo "_law_is_within", .glo "_law_bound", .glo "_law_near", .glo "_law_signs_right", .glo "_law_places_right", .glo "law", .glo "is_integer", .meth "Order" "__init__", .meth "Order" "__len__", .meth "Order" "__iter__", .meth "Order" "__eq__", .meth "Order" "__add__", .meth "Order" "__sub__", .meth "Order" "__and__", .meth "Order" "__le__", .meth "Order" "__invert__", .meth "Order" "place", .meth "Order" "moved", .meth "Order" "reduced", .glo "BadOrder", .meth "BadOrder" "__init__", .glo "TooMany", .meth "TooMany" "__init__", .free "isinstance", .free "int", .free "bool", .free "str", .free "len", .free "tuple", .free "list", .free "range", .free "abs", .free "iter", .free "set", .free "repr", .int "LONGEST_NAME" 8, .int "MOST_PAIRS" 36, .glo "NO_NAMES", .glo "Order", .glo "FillError", .cls "Order", .noat "Order" "pairs", .mkr "Order"]
abbrev EX0 : Frag → Bool := fun K => Hk.cmB K (He.ga K "Order") "of"
abbrev EX1 : Frag → Bool := fun K => Hk.errF K (He.ga K "FillError") (He.ga K "BadOrder") (He.ma K (He.ga K "BadOrder") "__init__") "part" "part"
abbrev EX2 : Frag → Bool := fun K => Hk.errB K (He.ga K "BadOrder")
abbrev EX3 : Frag → Bool := fun K => Hk.errF K (He.ga K "FillError") (He.ga K "TooMany") (He.ma K (He.ga K "TooMany") "__init__") "what" "most"
abbrev EX4 : Frag → Bool := fun K => Hk.errB K (He.ga K "TooMany")
abbrev EX5 : Frag → Bool := fun K => Hk.tupAt K (He.ga K "NO_NAMES") [.str "none", .str "self"]
abbrev EX6 : Frag → Bool := fun K => Hk.insB K (He.ga K "Order")
abbrev EX7 : Frag → Bool := fun K => Hk.readB K (He.ga K "Order")
abbrev EX8 : Frag → Bool := fun K => decide (PySem.W.findIn K (.ref (He.ga K "Order")) "__ne__" = some (some (.builtin "object.__ne__")))
abbrev EX9 : Frag → Bool := fun K => PySem.W.selfFirst K (He.ga K "Order")
abbrev EX10 : Frag → Bool := fun K => decide (PySem.W.kitOne K (.ref (He.ga K "BadOrder")) (.ref (He.ga K "BadOrder")) = some true)
abbrev EX11 : Frag → Bool := fun K => Hk.noInB K (He.ga K "Order") "sub"
abbrev EX12 : Frag → Bool := fun K => Hk.noInB K (He.ga K "Order") "and"
abbrev EX : List (Frag → Bool) := [EX0, EX1, EX2, EX3, EX4, EX5, EX6, EX7, EX8, EX9, EX10, EX11, EX12]
theorem runA : Hk.RunA R 15538 := by
  intro w os
  kernel_rfl
theorem runB : Hk.RunB R 15538 q loose := by
  intro w os
  kernel_rfl
theorem runC : Hk.RunC R 15538 as FA FN := by
  intro w os
  kernel_rfl
theorem runD : Hk.RunD R 15538 as EX := by
  intro w os
  kernel_rfl
end Hd
end

set_option Elab.async false
set_option linter.all false
set_option maxRecDepth 100000
set_option maxHeartbeats 4000000
/-! The small defs of the program that ask of which kind a value is. -/
namespace Fk
open PySem PySem.Spec PyProof.Rows L2
def top (i : Nat) : Stmt := PySem.Challenge.pw_filledrow_k19_orders_reckoned.main.body.getD i (.Pass ⟨0, 0, 0, 0⟩)
abbrev sInteger : Stmt := top 17
abbrev sAmount : Stmt := top 18
abbrev sName : Stmt := top 19
abbrev sNames : Stmt := top 22
abbrev sAmounts : Stmt := top 31
/-- the built-ins that are still themselves, and the constants -/
structure Blt (mg : Str → Option Value) : Prop where
  isi : mg "isinstance" = none
  int : mg "int" = none
  bool : mg "bool" = none
  str : mg "str" = none
  len : mg "len" = none
/-- is_integer(value, least) -/
def spInteger (K : PySem.W.Frag) : Sp := fun vs H Q _ => ∃ (v : V) (n : Int), vs = [v, .int n] ∧
  ((∃ i, v = .int i ∧ Q (.bl (decide (n ≤ i))) H) ∨ (∃ b, v = .bl b ∧ Q (.bl false) H) ∨ (∃ t, TyX K H v (.type t) ∧ kitB t "int" = some false ∧ Q (.bl false) H))
def spAmount (K : PySem.W.Frag) : Sp := fun vs H Q _ => ∃ (v : V), vs = [v] ∧
  ((∃ i, v = .int i ∧ Q (.bl (decide (0 ≤ i))) H) ∨ (∃ b, v = .bl b ∧ Q (.bl false) H) ∨ (∃ t, TyX K H v (.type t) ∧ kitB t "int" = some false ∧ Q (.bl false) H))
/-- what a text is to be a name -/
def nameB (x : Str) : Bool := decide ((x.length : Int) ≤ 8) && !(inV (.str x) [.str "none", .str "self"]) && Txt.isascii x && Txt.isalpha x && Txt.islower x
def spName (K : PySem.W.Frag) : Sp := fun vs H Q _ => ∃ (v : V), vs = [v] ∧
  ((∃ x, v = .str x ∧ x.length ≤ sizeLine ∧ Q (.bl (nameB x)) H) ∨ (∃ t, TyX K H v (.type t) ∧ kitB t "str" = some false ∧ Q (.bl false) H))
theorem scInteger : FnScope ["value", "least"] ["value", "least"] (defScope sInteger) := ⟨rfl, rfl, rfl, by decide +kernel, rfl, by decide +kernel, by decide +kernel⟩
theorem scAmount : FnScope ["value"] ["value"] (defScope sAmount) := ⟨rfl, rfl, rfl, by decide +kernel, rfl, by decide +kernel, by decide +kernel⟩
theorem scName : FnScope ["value"] ["value"] (defScope sName) := ⟨rfl, rfl, rfl, by decide +kernel, rfl, by decide +kernel, by decide +kernel⟩
section
variable {P : Program} {w : World} {K : PySem.W.Frag} {mg : Str → Option Value} {base : Heap} {f fI fN : Addr} {fd fdI fdN : FuncData}
theorem ok_integer (F : FunD K "is_integer" "is_integer" (defArgs sInteger) (defBody sInteger) (defScope sInteger) [.non] [] f fd) (T : Blt mg) : FnOk P w K mg base CX0 1 f fd ["value", "least"] (spInteger K) := by
  refine F.ok (CX := CX0) scInteger (fun vs H Q E h => ?_) (fun cdv A outer s H vs Q E hr h => ?_)
  · obtain ⟨v, n, rfl, _⟩ := h
    rfl
  · obtain ⟨v, n, rfl, h⟩ := h
    refine ⟨_, PSs.nox (pss_one (ps_ret (pe_and (pe_callB call_isi (by rfl) T.isi (by decide +kernel) (pa_cons (pv 0) (pa_cons (pe_bltn (v := .ty "int") (by rfl) T.int (by decide +kernel) rfl) pa_nil)))
      (pe_and (pe_not (pe_callB call_isi (by rfl) T.isi (by decide +kernel) (pa_cons (pv 0) (pa_cons (pe_bltn (v := .ty "bool") (by rfl) T.bool (by decide +kernel) rfl) pa_nil)))) (pe_one (pe_or (pe_cmpR op_isN (pv 1) pe_non (nomark _)) (pe_one (pe_cmpR op_ge (pv 0) (pv 1) (nomark _))))))))), ?_⟩
    rcases h with ⟨i, rfl, q⟩ | ⟨b, rfl, q⟩ | ⟨t, ty, e, q⟩
    · exact ⟨_, rfl, _, _, _, _, true, rfl, .ty _, .base (.int i), kit_ty (by decide +kernel), _, rfl, _, rfl, _, _, _, _, false, rfl, .ty _, .base (.int i), kit_ty (by decide +kernel), _, rfl, true, rfl, _, rfl, rfl, _, rfl, _, rfl, _, rfl, _, _, rfl, rfl, q⟩
    · exact ⟨_, rfl, _, _, _, _, true, rfl, .ty _, .base (.bl b), kit_ty (by decide +kernel), _, rfl, _, rfl, _, _, _, _, true, rfl, .ty _, .base (.bl b), kit_ty (by decide +kernel), _, rfl, false, rfl, q⟩
    · exact ⟨_, rfl, _, _, _, _, false, rfl, .ty _, ty, kit_ty e, _, rfl, q⟩
theorem ok_amount (F : Fun K "is_amount" "is_amount" sAmount f fd) (G : FnOk P w K mg base CX0 1 fI fdI ["value", "least"] (spInteger K)) (b : Binds K fdI ["value", "least"] []) (gI : mg "is_integer" = some (.ref fI)) (kI : PySem.W.keepIn K (.ref fI) = true) :
    FnOk P w K mg base CX0 2 f fd ["value"] (spAmount K) := by
  refine F.ok scAmount (fun vs H Q E h => ?_) (fun cdv A outer s H vs Q E hr h => ?_)
  · obtain ⟨v, rfl, _⟩ := h
    rfl
  · obtain ⟨v, rfl, h⟩ := h
    refine ⟨_, pss_one (ps_ret (pe_call G hr (by rfl) gI kI b .nil pass0 (pa_cons (pv 0) (pa_cons pe_int pa_nil)))), ?_⟩
    exact ⟨_, rfl, v, 0, rfl, h⟩
theorem ok_name (F : Fun K "is_name" "is_name" sName f fd) (T : Blt mg) {tL tN : Nat} {aN : Addr} (gL : mg "LONGEST_NAME" = some (.int 8 tL)) (gN : mg "NO_NAMES" = some (.ref aN)) (hN : ∀ H, SqT K H aN [.str "none", .str "self"]) :
    FnOk P w K mg base CX0 1 f fd ["value"] (spName K) := by
  refine F.ok scName (fun vs H Q E h => ?_) (fun cdv A outer s H vs Q E hr h => ?_)
  · obtain ⟨v, rfl, _⟩ := h
    rfl
  · obtain ⟨v, rfl, h⟩ := h
    refine ⟨_, pss_cons (ps_if (PW.pt (pw_or (pt_not (pt_val (pe_callB call_isi (by rfl) T.isi (by decide +kernel) (pa_cons (pv 0) (pa_cons (pe_bltn (v := .ty "str") (by rfl) T.str (by decide +kernel) rfl) pa_nil)))))
        (pw_or (pt_cmpR op_gt (pe_callB call_len_str (by rfl) T.len PySem.boot_len (pa_cons (pv 0) pa_nil)) (pe_glob (v := .int 8) (by rfl) gL ⟨_, rfl⟩) (nomark _)) (pw_or1 (pt_cmpR op_in_seq (pv 0) (pe_glob (v := .ref aN) (by rfl) gN rfl) (by rfl))))))
        (pss_one (ps_ret pe_bl)) pss_nil)
      (pss_one (ps_ret (pe_and (pe_bm0 PySem.F.plainAttrs_str PySem.F.slot_str_isascii PySem.F.type_str_isascii mt_isascii (pv 0)) (pe_and (pe_bm0 PySem.F.plainAttrs_str PySem.F.slot_str_isalpha PySem.F.type_str_isalpha mt_isalpha (pv 0)) (pe_one (pe_bm0 PySem.F.plainAttrs_str PySem.F.slot_str_islower PySem.F.type_str_islower mt_islower (pv 0))))))), ?_⟩
    rcases h with ⟨x, rfl, hx, q⟩ | ⟨t, ty, e, q⟩
    · refine ⟨_, rfl, _, _, _, _, true, rfl, .ty _, .base (.str x), kit_ty (by decide +kernel), _, rfl, ?_⟩
      refine ⟨_, rfl, x, rfl, hx, _, _, rfl, rfl, _, rfl, ?_⟩
      by_cases h8 : (8 : Int) < x.length
      · rw [decide_eq_true h8]
        have e : nameB x = false := by
          unfold nameB
          rw [decide_eq_false (by omega)]
          rfl
        rw [e] at q
        exact q
      · rw [decide_eq_false h8]
        refine ⟨_, rfl, aN, _, rfl, .inr (hN H), rfl, rfl, _, rfl, ?_⟩
        cases hn : inV (.str x) [.str "none", .str "self"] with
        | true =>
          have e : nameB x = false := by
            unfold nameB
            rw [hn]
            simp
          rw [e] at q
          exact q
        | false =>
          have e : nameB x = (Txt.isascii x && Txt.isalpha x && Txt.islower x) := by
            unfold nameB
            rw [hn, decide_eq_true (by omega)]
            simp
          rw [e] at q
          refine ⟨_, rfl, rfl, x, rfl, rfl, trivial, _, rfl, ?_⟩
          cases h1 : Txt.isascii x with
          | false => rw [h1] at q; exact q
          | true =>
            refine ⟨_, rfl, rfl, x, rfl, rfl, trivial, _, rfl, ?_⟩
            cases h2 : Txt.isalpha x with
            | false => rw [h1, h2] at q; exact q
            | true =>
              rw [h1, h2] at q
              exact ⟨_, rfl, rfl, x, rfl, rfl, trivial, q⟩
    · exact ⟨_, rfl, _, _, _, _, false, rfl, .ty _, ty, kit_ty e, _, rfl, q⟩
/-- what is never reached -/
theorem ps_dead {X : Cx} {st : Stmt} : PS X st (fun _ _ _ => False) := ⟨fun _ _ _ _ _ _ h => h.elim⟩
/-- a text that is a name -/
def NameV (v : V) : Prop := ∃ x : Str, v = .str x ∧ x.length ≤ sizeLine ∧ nameB x = true
/-- an amount -/
def AmtV (v : V) : Prop := ∃ i : Int, v = .int i ∧ 0 ≤ i
/-- check_names(values), all of them names; check_amounts(values), all of them amounts -/
def spAll (K : PySem.W.Frag) (R : V → Prop) : Sp := fun vs H Q _ => ∃ (a : Addr) (xs : List V), vs = [.ref a] ∧ SqL K H a xs ∧ (∀ x ∈ xs, R x) ∧ Q .non H
theorem scNames : FnScope ["values", "value"] ["values"] (defScope sNames) := ⟨rfl, rfl, rfl, by decide +kernel, rfl, by decide +kernel, by decide +kernel⟩
theorem scAmounts : FnScope ["values", "value"] ["values"] (defScope sAmounts) := ⟨rfl, rfl, rfl, by decide +kernel, rfl, by decide +kernel, by decide +kernel⟩
theorem ok_names (F : Fun K "check_names" "check_names" sNames f fd) (G : FnOk P w K mg base CX0 1 fN fdN ["value"] (spName K)) (b : Binds K fdN ["value"] []) (gN : mg "is_name" = some (.ref fN)) (kN : PySem.W.keepIn K (.ref fN) = true) :
    FnOk P w K mg base CX0 2 f fd ["values"] (spAll K NameV) := by
  have nd := scNames.nd
  refine F.ok scNames (fun vs H Q E h => ?_) (fun cdv A outer s H vs Q E hr h => ?_)
  · obtain ⟨a, xs, rfl, _⟩ := h
    rfl
  · obtain ⟨a, xs, rfl, hS, hx, q⟩ := h
    refine ⟨_, pss_one (ps_for PassesOwn.never rfl (pi_list (pv 0)) (pg_name (i := 1) nd rfl (Or.inl rfl))
      (pss_one (ps_if (pt_not (pt_val (pe_call G hr (by rfl) gN kN b .nil pass0 (pa_cons (pv 1) pa_nil)))) (pss_one ps_dead) pss_nil))), ?_⟩
    refine ⟨_, rfl, a, rfl, ⟨_, hS⟩, for_list (xs := xs) (fun i σ H' => H' = H ∧ ∃ o, σ = [some (.ref a), o]) ⟨rfl, _, rfl⟩ (fun i σ H' _ h => by rw [h.1]; exact hS) (fun i x σ H' hi h => ?_) (fun σ H' h => ?_)⟩
    · obtain ⟨rfl, o, rfl⟩ := h
      obtain ⟨z, rfl, hz, hn⟩ := hx x (List.mem_of_getElem? hi)
      refine ⟨_, rfl, _, rfl, .inl ⟨z, rfl, hz, _, rfl, ?_⟩⟩
      rw [hn]
      exact ⟨rfl, _, rfl⟩
    · obtain ⟨rfl, o, rfl⟩ := h
      exact q
theorem ok_amounts (F : Fun K "check_amounts" "check_amounts" sAmounts f fd) (G : FnOk P w K mg base CX0 2 fN fdN ["value"] (spAmount K)) (b : Binds K fdN ["value"] []) (gN : mg "is_amount" = some (.ref fN)) (kN : PySem.W.keepIn K (.ref fN) = true) :
    FnOk P w K mg base CX0 3 f fd ["values"] (spAll K AmtV) := by
  have nd := scAmounts.nd
  refine F.ok scAmounts (fun vs H Q E h => ?_) (fun cdv A outer s H vs Q E hr h => ?_)
  · obtain ⟨a, xs, rfl, _⟩ := h
    rfl
  · obtain ⟨a, xs, rfl, hS, hx, q⟩ := h
    refine ⟨_, pss_one (ps_for PassesOwn.never rfl (pi_list (pv 0)) (pg_name (i := 1) nd rfl (Or.inl rfl))
      (pss_one (ps_if (pt_not (pt_val (pe_call G hr (by rfl) gN kN b .nil pass0 (pa_cons (pv 1) pa_nil)))) (pss_one ps_dead) pss_nil))), ?_⟩
    refine ⟨_, rfl, a, rfl, ⟨_, hS⟩, for_list (xs := xs) (fun i σ H' => H' = H ∧ ∃ o, σ = [some (.ref a), o]) ⟨rfl, _, rfl⟩ (fun i σ H' _ h => by rw [h.1]; exact hS) (fun i x σ H' hi h => ?_) (fun σ H' h => ?_)⟩
    · obtain ⟨rfl, o, rfl⟩ := h
      obtain ⟨z, rfl, hz⟩ := hx x (List.mem_of_getElem? hi)
      refine ⟨_, rfl, _, rfl, .inl ⟨z, rfl, _, rfl, ?_⟩⟩
      rw [decide_eq_true hz]
      exact ⟨rfl, _, rfl⟩
    · obtain ⟨rfl, o, rfl⟩ := h
      exact q
end
end Fk

set_option Elab.async false
set_option linter.all false
set_option maxRecDepth 100000
set_option maxHeartbeats 4000000
/-! An own class of errors is called with keywords too: what BaseException.__new__ makes, then its own __init__. -/
namespace PySem
namespace XK
open PySem.W PySem.Calls PyProof.Rows PySem.HandSPX
section
variable {prog : Program} {w : World} {A : Around} {E : Value → Shared → Prop} {R : Result → Shared → Prop} {h : Heap} {g : Array GenState} {d : Drawn} {t : Nat} {os : OsState}
variable {nm q : Str} {C N : Addr} {bs bm up : List Value} {hdct : Bool} {sn : List Str} {sub : List Value} {ab : Bool} {col : Option Bool} {dd : Option Addr} {k0 k1 k2 k3 k5 : Option Value} {B newId initId : String} {us : List Value} {kw : List (Str × Value)} {fI : Addr}
/-- the class C, with bm above it, has the builtin ones that the base's chain `up` has -/
theorem above (same : ∀ n : String, bm.contains (.type n) = up.contains (.type n)) {n : String} {b : Bool} (e : up.contains (.type n) = b) : (Value.ref C :: bm).contains (.type n) = b := by
  rw [List.contains_cons, same, e]
  rfl
/-- new(C, *us, **kw): the error, its args a new tuple -/
theorem new_kw (F : ExcBaseFacts B newId initId up) (same : ∀ n : String, bm.contains (.type n) = up.contains (.type n)) (at_C : h.get? C = some (excClassObj nm q C N bs bm hdct sn sub ab col dd k0 k1 k2 k3 k5 newId)) (short : us.length ≤ sizeLine)
    (k : R (.ok (.ret (.ref (h.objs.size + 1)))) ⟨(h.push (W.kdv_tup us)).push (excO C h.objs.size), g, d, t, os⟩) : codeAny (model prog w) A (.builtin newId ⟨.ref C :: us, kw⟩) R ⟨h, g, d, t, os⟩ := by
  have yes := above (C := C) same F.hasB
  have noA := above (C := C) same F.noAttr
  have noN := above (C := C) same F.noName
  have room := F.ends
  refine codeAny_builtinAt F.entry ?_
  unfold Builtin.«BaseException.__new__»
  refine wpAt_bind ?_
  show wpAt _ _ _ (stack >>= _) _ _ _
  refine wpAt_bind (wpAt_stack fun _ _ => wpAt_of_wpAny ?_)
  wp_walk
  refine wpAt_of_wpAny ?_
  rw [F.owner]
  repeat (first
    | with_reducible refine wpAny_madeHere_exc F.canon at_C ?_
    | with_reducible refine wpAny_loadPart_at at_C ?_
    | (with_reducible refine wpAny_isSubtype_exc at_C ?_; (first | rw [yes] | rw [noA] | rw [noN]))
    | wp_step)
  show R _ _
  rw [Heap.size_push]
  exact k
/-- type.__call__(C, *us, **kw): the error at the second new address; then __init__ at fI has it -/
theorem type_call_kw {Q : Fin → Shared → Prop} (F : ExcBaseFacts B newId initId up) (same : ∀ n : String, bm.contains (.type n) = up.contains (.type n)) (at_C : h.get? C = some (excClassObj nm q C N bs bm hdct sn sub ab col dd k0 k1 k2 k3 k5 newId)) (short : us.length ≤ sizeLine)
    (init : W.Looks (model prog w) h (typeLookup (.ref C) "__init__") (some (.ref fI))) (bind : ∀ self, W.Looks (model prog w) h (bindSpecial (.ref fI) self) (.ref fI, [self]))
    (k : codeAny (model prog w) A (.call (.ref fI) ⟨.ref (h.objs.size + 1) :: us, kw⟩)
      (fun r s' => match r with | .ok (.ret v) => v = .none ∧ Q (.done (.ret (.ref (h.objs.size + 1)))) s' | .ok _ => False | .error e => E e s') ⟨(h.push (W.kdv_tup us)).push (excO C h.objs.size), g, d, t, os⟩) :
    wpAny (model prog w) A (Builtin.«type.__call__» ⟨.ref C :: us, kw⟩) Q E ⟨h, g, d, t, os⟩ := by
  have old : ∀ b o, h.get? b = some o → ((h.push (W.kdv_tup us)).push (excO C h.objs.size)).get? b = some o := fun b o e => Heap.get?_push_of_some _ (Heap.get?_push_of_some _ e)
  have made : ((h.push (W.kdv_tup us)).push (excO C h.objs.size)).get? (h.objs.size + 1) = some (excO C h.objs.size) := by heap_get
  have itself : (Value.ref C :: bm).contains (.ref C) = true := by simp
  have yes := above (C := C) same F.hasB
  have star := F.noStar
  repeat (first | with_reducible refine wpAny_loadPart_at at_C ?_ | with_reducible refine wpAny_madeBy_exc at_C ?_ | wp_step)
  refine codeAny_call_builtin_code (Code.quiet_builtin _ F.quiet) ?_
  -- new's own arguments pass: any, with any keywords
  simp only [checkBuiltinCall, F.newKind, F.newSplit, F.newRow]
  repeat (first
    | refine wpAny_loadPart_at at_C ?_
    | (refine wpAny_isSubtype_exc at_C ?_; rw [yes])
    | refine wpAny_staticBase_exc at_C ?_
    | refine wpAny_madeBy_exc at_C ?_
    | simp only [bne_self_eq_false, Bool.false_eq_true, if_false]
    | wp_step)
  refine new_kw F same at_C short ?_
  show wpAny _ _ _ _ _ _
  unfold isInstance
  have at_C' := old _ _ at_C
  repeat (first | with_reducible refine wpAny_loadPart_at made ?_ | (with_reducible refine wpAny_isSubtype_exc at_C' ?_; rw [itself]) | wp_step)
  show wpAny _ _ (typeLookup (.ref C) _) _ _ _
  refine (init.keeps old).at (wpAny_holding (wpAny_bind (((bind _).keeps old).at (wpAny_bind (wpAny_call (codeAny_mono k fun r s' z => ?_))))))
  rcases r with e | (v | _ | _ | _)
  all_goals first | exact z | exact z.elim | skip
  obtain ⟨rfl, z⟩ := z
  first
    | exact wpAny_pure (wpAny_pure z)
    | (wp_walk; exact z)
/-- C(*us, **kw) -/
theorem call_kw (F : ExcBaseFacts B newId initId up) (same : ∀ n : String, bm.contains (.type n) = up.contains (.type n)) (at_C : h.get? C = some (excClassObj nm q C N bs bm hdct sn sub ab col dd k0 k1 k2 k3 k5 newId)) (short : us.length ≤ sizeLine)
    (init : W.Looks (model prog w) h (typeLookup (.ref C) "__init__") (some (.ref fI))) (bind : ∀ self, W.Looks (model prog w) h (bindSpecial (.ref fI) self) (.ref fI, [self]))
    (k : codeAny (model prog w) (A.under (.builtin "type.__call__" ⟨.ref C :: us, kw⟩)) (.call (.ref fI) ⟨.ref (h.objs.size + 1) :: us, kw⟩) (W.InitBack (h.objs.size + 1) R) ⟨(h.push (W.kdv_tup us)).push (excO C h.objs.size), g, d, t, os⟩) :
    codeAny (model prog w) A (.call (.ref C) ⟨us, kw⟩) R ⟨h, g, d, t, os⟩ := by
  have look := tc_lookup
  have self := tc_bind (.ref C)
  have isT : (⟨h, g, d, t, os⟩ : Shared).TypeIs (.ref C) "type" := ⟨_, at_C, rfl⟩
  refine codeAny_of_tree ?_
  show wpAny _ _ (callAny (.ref C) _) _ _ _
  repeat (any_goals (first | assumption | with_reducible refine wpAny_loadPart_at at_C ?_ | wp_step))
  refine ⟨rfl, codeAny_call_builtin_at (Code.quiet_builtin _ (by decide +kernel)) entry_typeCall (wpAny_check_type_call_sub at_C (type_call_kw F same at_C short init bind (codeAny_mono k fun r s' z => ?_)))⟩
  rcases r with e | (v | _ | _ | _) <;> exact z
end
end XK
end PySem

set_option Elab.async false
set_option linter.all false
set_option maxRecDepth 100000
set_option maxHeartbeats 4000000
namespace PySem
namespace XK
open PySem.W PySem.Calls PyProof.Rows PySem.HandSPX
section
variable {prog : Program} {w : World} {A : Around} {E : Value → Shared → Prop} {s : Shared} {K : Frag} {x D : Addr} {ox : Obj}
/-- a data descriptor of the class goes ahead of the object's own dict -/
theorem found_data {C : Addr} {od : Option Obj} {n : Str} {a g : Value} {cd : ClassData} (c : clsIn K C = some cd) (ha : findIn K (.ref C) n = some (some a)) (hg : specialIn K a "__get__" = some (some g)) (ht : takesIn K a = some true) : findObj K C od n = some (.bind g a) := by
  simp [findObj, c, ha, hg, ht]
/-- what the class D of an error must say, so that isinstance asks its objects rightly -/
structure Asked (K : Frag) (D : Addr) : Prop where
  ga : findIn K (.ref D) "__getattribute__" = some (some (.builtin "BaseException.__getattribute__"))
  gg : findIn K (.ref D) "__getattr__" = some none
  ex : subIn K (.ref D) (.type "BaseException") = some true
  cd : ∃ cd : ClassData, clsIn K D = some cd
  cl : findIn K (.ref D) "__class__" = some (some (.builtin "object.__class__"))
  ge : specialIn K (.builtin "object.__class__") "__get__" = some (some (.builtin "getset_descriptor.__get__"))
  tk : takesIn K (.builtin "object.__class__") = some true
  mo : mroIn K D (.type "object") = some true
theorem Asked.obj (T : Asked K D) : ∃ c d cd sl, K.lookup D = some ⟨c, d, .cls cd, sl⟩ := by
  obtain ⟨cd, e⟩ := T.cd
  unfold clsIn at e
  split at e
  · exact ⟨_, _, _, _, by assumption⟩
  · cases e
/-- e.__class__, e an error with or without a dict of its own -/
theorem Asked.get {od : Option Obj} {Q : Option Value → Shared → Prop} (T : Asked K D) (X : K.In s.heap) (I : InstAt s.heap x ox D od) (k : Q (some (.ref D)) { s with toks := s.toks + 1 }) : wpAny (model prog w) A (getAttr? (.ref x) "__class__") Q E s := by
  obtain ⟨cd, hcd⟩ := T.cd
  have found := looks_find (M := model prog w) X I (found_data (od := od) hcd T.cl T.ge T.tk)
  obtain ⟨hp, g, d, t, os⟩ := s
  have ty := I.type (M := model prog w)
  have isE : Looks (model prog w) hp (isInstance (.ref x) (.type "BaseException")) true := ty.andThen (looks_subIn X T.ex)
  have no : (onTheHeap (Value.ref D) && Value.builtin "BaseException.__getattribute__" == Value.builtin "object.__getattribute__") = false := by
    rw [show (Value.builtin "BaseException.__getattribute__" == Value.builtin "object.__getattribute__") = false by decide +kernel]
    rfl
  unfold getAttr? getAttrBy? getAttrBy
  refine wpAny_bind (wpAny_mkText (wpAny_bind (wpAny_attempt (wpAny_holding (wpAny_bind (ty.at (wpAny_bind ((looks_findIn X T.ga).at ?_))))))))
  show wpAny _ _ (if (onTheHeap (Value.ref D) && Value.builtin "BaseException.__getattribute__" == Value.builtin "object.__getattribute__") = true then _ else _) _ _ _
  rw [if_neg (by rw [no]; decide)]
  unfold getAttrByItsOwn hookBefore
  refine wpAny_bind ?_
  rw [if_pos (show onTheHeap (Value.ref D) = true from rfl)]
  refine (looks_findIn X T.gg).at (wpAny_bind (wpAny_attempt (wpAny_holding ?_)))
  unfold callGetattribute
  rw [if_neg (show ¬ (false && onTheHeap (Value.builtin "BaseException.__getattribute__")) = true by decide)]
  unfold boundAndCalled
  rw [PySem.F.excAttr_ValueError.ga.bind (.ref x)]
  refine wpAny_bind (wpAny_pure (wpAny_call (codeAny_call_builtin PySem.F.excAttr_ValueError.ga.plain PySem.F.entry_bexc_ga ?_)))
  refine @check_slot (model prog w) _ _ ⟨hp, g, d, t + 1, os⟩ "BaseException.__getattribute__" "BaseException" "__getattribute__" (.ref x) [.str "__class__" t] [] _ (by decide +kernel) (by decide +kernel) isE (PySem.F.args_bexc_ga (.ref x) (.str "__class__" t)) ?_
  unfold Builtin.«object.__getattribute__»
  refine wpAny_bind (wpAny_of_eq (a := ((Value.ref x : Value), [Value.str "__class__" t])) (by first | rfl | (simp only [slotArgs]; rfl)) (wpAny_bind (wpAny_pure (wpAny_bind (ty.at (wpAny_bind (found.at ?_)))))))
  show wpAny _ _ (holding [Value.builtin "object.__class__"] (call (.builtin "getset_descriptor.__get__") [.builtin "object.__class__", .ref x, .ref D]) >>= ret) _ _ _
  refine wpAny_bind (wpAny_holding (wpAny_call (class_get (s := ⟨hp, g, d, t + 1, os⟩) (ox := ox) (od := od) X I T.mo (wpAny_pure ?_))))
  show wpAny _ _ (handedOut (.ref D)) _ _ _
  rw [handedOut_of (v := .ref D) rfl]
  first
    | exact wpAny_pure (wpAny_pure k)
    | exact wpAny_pure k
    | exact wpAny_pure (wpAny_bind (wpAny_pure (wpAny_pure k)))
theorem Asked.kit {od : Option Obj} (T : Asked K D) : KitX K (.ref x) (.ref D) (fun h => InstAt h x ox D od) := by
  obtain ⟨c, d, cd, sl, ho⟩ := T.obj
  exact {
    ty := fun _ _ _ I => I.type
    it := fun _ _ X _ _ _ _ _ k q => by
      unfold isType loadHead
      exact wpAny_bind (wpAny_loadPart (k _ _ (X _ _ ho)) (wpAny_pure q))
    ne := fun h tp _ _ _ _ X there => Bool.eq_false_iff.mpr fun q => by
      obtain rfl : D = tp := Value.ref.inj (beq_iff_eq.mp q)
      cases (X _ _ ho).symm.trans there
    ca := fun X I k => T.get X I k }
end
end XK
end PySem

namespace L2
open PySem PySem.Spec PyProof.Rows
/-- at a: an exception of the class at C that is not raised, with its fields -/
def ErrAt (H : Hp) (a C : Addr) (fs : List (Str × V)) : Prop := (fs = [] ∧ H a = some (exo a C none)) ∨ ∃ d, H a = some (exo a C (some d)) ∧ H d = some (exd d fs)
theorem ErrAt.ex {H H' : Hp} {a C : Addr} {fs : List (Str × V)} (e : ∀ b o, H b = some o → H' b = some o) (h : ErrAt H a C fs) : ErrAt H' a C fs := by
  rcases h with ⟨e1, e2⟩ | ⟨d, e1, e2⟩
  · exact .inl ⟨e1, e _ _ e2⟩
  · exact .inr ⟨d, e _ _ e1, e _ _ e2⟩
section
variable {X : Cx} {pins : List (Addr × Obj)} {σ : St} {H : Hp} {s : Shared}
theorem ErrAt.inst {a C : Addr} {fs : List (Str × V)} (I : Inv X pins σ H s) (h : ErrAt H a C fs) : ∃ ox od, PySem.W.InstAt s.heap a ox C od := by
  rcases h with ⟨_, e⟩ | ⟨d, e, ed⟩
  · obtain ⟨t1, ho⟩ := exo_at I.hok e
    exact ⟨_, none, ho, rfl, rfl, trivial⟩
  · obtain ⟨t1, ho⟩ := exo_at I.hok e
    obtain ⟨mA, ⟨od, _, _, hd, _⟩, _⟩ := exd_at I.hok ed
    exact ⟨_, some od, ho, rfl, rfl, hd⟩
/-- isinstance(e, c), e an exception of an own class -/
def rIsX (K : PySem.W.Frag) : List V → Hp → VK → Prop := fun xs H Q => ∃ (a D : Addr) (fs : List (Str × V)) (c : V) (cv : Value) (b : Bool), xs = [.ref a, c] ∧ ErrAt H a D fs ∧ ExcC K D ∧ ClsV c cv ∧ PySem.W.kitOne K (.ref D) cv = some b ∧ Q (.bl b) H
theorem call_isX : CallR X (.builtin "isinstance") (rIsX X.K) := by
  intro pins s σ H xs us Q I r h
  obtain ⟨a, D, fs, c, cv, b, rfl, ea, C, k, e, q⟩ := h
  obtain ⟨u1, u2, rfl, r1, r2⟩ := vals2 r
  have e2 := k.eq r2
  subst e2
  cases r1
  obtain ⟨ox, od, J⟩ := ea.inst I
  exact PySem.W.kia_one (PySem.XK.Asked.kit (od := od) (ox := ox) ⟨C.hg, C.hk, C.hs, (let ⟨cd, hc, _⟩ := PySem.W.any_some C.hd; ⟨cd, hc⟩), C.ha, C.hn, C.ht, C.hm⟩) I.kIn J e (fun z => nomatch z) fun tk => ⟨.bl b, H, I.kept (t' := tk) fun _ _ z => z, rfl, q⟩
/-- e.f, e an exception of an own class -/
def tXv (K : PySem.W.Frag) (f : Str) (te : TE) : TE := fun σ H Q => te σ H fun x H1 => ∃ (a C : Addr) (fs : List (Str × V)) (v : V), x = .ref a ∧ XfC K C ∧ PySem.W.findIn K (.ref C) f = some none ∧ ErrAt H1 a C fs ∧ fs.lookup f = some v ∧ Q v H1
theorem pe_xv {e : Expr} {te : TE} {pos : Pos} {n : Str} (he : PE X e te) (hb : attributeBase e n X.env (eval e X.env) = eval e X.env := by rfl) :
    PE X (.Attribute e n pos) (tXv X.K n te) := by
  refine ⟨fun pins s σ H Q I h => ?_⟩
  refine attr_of hb (thn (he.run pins s σ H _ I h) fun u s1 hh => ?_)
  obtain ⟨x, H1, I1, rx, a, C, fs, v, ex, T, hno, ea, l, q⟩ := hh
  subst ex
  obtain rfl : u = Value.ref a := rx
  rcases ea with ⟨e1, _⟩ | ⟨dd, e1, ed⟩
  · subst e1
    cases l
  · obtain ⟨t1, ho⟩ := exo_at I1.hok e1
    obtain ⟨mA, hns, hr⟩ := exd_at I1.hok ed
    obtain ⟨od, hd, hl⟩ := lookIn_ns hns
    obtain ⟨u, hu, ru⟩ := RelO.some_of (v := v) (o := mA n) (by rw [← l]; exact hr n)
    have J : PySem.W.InstAt s1.heap a _ C (some od) := ⟨ho, rfl, rfl, hd⟩
    exact HandSPX.exc_get I1.kIn J T.ga T.gg T.exC (PySem.W.findObj_own T.hdC hno rfl (by rw [hl, hu])) (handed_of ru) ⟨v, H1, I1.tok _, ru, q⟩
/-- C(e, .., k = v, ..) as a value, C's own __init__ keeping sp -/
def tMkV (C : Addr) (n m : Nat) (sp : Sp) (gV : List V → List V → List V) (E : XK) (ta tk : TA) : TE := fun σ H Q => ta σ H fun vs H1 => tk σ H1 fun zs H2 => vs.length = n ∧ zs.length = m ∧
  ∀ a, H2 a = none → sp (gV (.ref a :: vs) zs) (upd H2 a (exo a C none)) (fun v H3 => v = .non ∧ Q (.ref a) H3) E
variable {CX : CXT} {k n : Nat} {f C fI : Addr} {fd : FuncData} {ps ks : List Str} {sp : Sp} {E : XK} {x : Str} {p pos : Pos} {e : Expr} {es : List Expr} {kws : List Keyword} {t tk : TA} {g : List Value → List Value → List Value} {gV : List V → List V → List V}
theorem run_mkv {Q : VK} {us ws : List Value} {vs zs : List V} (T : OexC X.K C) (iC : PySem.W.findIn X.K (.ref C) "__init__" = some (some (.ref fI))) (tI : PySem.W.typeIn X.K (.ref fI) = some (.type "function"))
    (F1 : FnOk X.prog X.w X.K X.mg X.base CX k fI fd ps sp) (hr : Room (k + 1) X.A) (hb : KBn X.K fd ps (n + 1) ks g gV) (hx : Passes CX X E) (I : Inv X pins σ H s) (r : Vals vs us) (rz : Vals zs ws) (l1 : vs.length = n) (l2 : zs.length = ks.length) (hn : n ≤ 1000)
    (h : ∀ a, H a = none → sp (gV (.ref a :: vs) zs) (upd H a (exo a C none)) (fun v H3 => v = .non ∧ Q (.ref a) H3) E) :
    wpAny (model X.prog X.w) X.A (call (.ref C) us (ks.zip ws)) (EP X pins σ Q) X.xe s := by
  obtain ⟨nm, q, N, bs, bm, sn, sub, ab, col, dd, k0, k1, k2, k3, k5, hC, hbm⟩ := T.cls
  obtain ⟨hp, gn, dr, tk, os⟩ := s
  have hsz : hp.objs.size ≤ hp.objs.size + 1 := Nat.le_succ _
  have hnn : H (hp.objs.size + 1) = none := I.hok.fresh hsz
  have hq := h (hp.objs.size + 1) hnn
  have kk : ∀ b o, hp.get? b = some o → ((hp.push (PySem.W.kdv_tup us)).push (PySem.HandSPX.excO C hp.objs.size)).get? b = some o := fun b o e => Heap.get?_push_of_some _ (Heap.get?_push_of_some _ e)
  have hget : ((hp.push (PySem.W.kdv_tup us)).push (PySem.HandSPX.excO C hp.objs.size)).get? (hp.objs.size + 1) = some (PySem.HandSPX.excO C hp.objs.size) := by heap_get
  have I2 : Inv X pins σ (upd H (hp.objs.size + 1) (exo (hp.objs.size + 1) C none)) ⟨(hp.push (PySem.W.kdv_tup us)).push (PySem.HandSPX.excO C hp.objs.size), gn, dr, tk, os⟩ :=
    I.laid (t' := tk) (a := hp.objs.size + 1) (o := exo (hp.objs.size + 1) C none) (h' := (hp.push (PySem.W.kdv_tup us)).push (PySem.HandSPX.excO C hp.objs.size)) kk hsz (exo_ok hget)
  have r1 : Vals (V.ref (hp.objs.size + 1) :: vs) (Value.ref (hp.objs.size + 1) :: us) := .cons rfl r
  have r2 := hb.rel r1 rz
  have e1 : (Value.ref (hp.objs.size + 1) :: us).length = n + 1 := r1.length.symm.trans (congrArg Nat.succ l1)
  have e2 : ws.length = ks.length := rz.length.symm.trans l2
  have hus : us.length ≤ sizeLine := by
    rw [← Paired.length r, sizeLine_eq, l1]
    omega
  refine wpAny_call (PySem.XK.call_kw F.excBase_ValueError (fun Y => PySem.HandSPX.refsVE_contains Y bm hbm) (I.kIn _ _ hC) hus (PySem.W.looks_findIn I.kIn iC) (fun self => PySem.W.bind_fn I.kIn self tI)
    (codeAny_mono (F1.run _ X.stack _ _ ⟨Value.ref (hp.objs.size + 1) :: us, ks.zip ws⟩ (g (Value.ref (hp.objs.size + 1) :: us) ws) _ _ E (hr.make C us (ks.zip ws)) (I2.env0.make C us (ks.zip ws)) (hb.to _ (Value.ref (hp.objs.size + 1) :: us) ws I2.kIn e1 e2) r2 hq) fun r s' hq' => ?_))
  cases r with
  | error er => exact hx pins σ _ _ er s' I2 hq'
  | ok fl =>
    cases fl with
    | ret u =>
      obtain ⟨v, H', I3, rv, ev, q3⟩ := I2.after hq'
      subst ev
      exact ⟨rv, ⟨V.ref (hp.objs.size + 1), H', I3, rfl, q3⟩⟩
    | next => exact False.elim hq'
    | brk => exact False.elim hq'
    | cont => exact False.elim hq'
/-- what such a class has -/
structure MkvC (K : PySem.W.Frag) (C fI : Addr) : Prop where
  o : OexC K C
  iC : PySem.W.findIn K (.ref C) "__init__" = some (some (.ref fI))
  tI : PySem.W.typeIn K (.ref fI) = some (.type "function")
/-- C(e, ..) -/
theorem pe_mkv (M : MkvC X.K C fI) (F : FnOk X.prog X.w X.K X.mg X.base CX k fI fd ps sp) (hr : Room (k + 1) X.A) (hg : Gl X x) (hm : X.mg x = some (.ref C)) (hb : KBn X.K fd ps (n + 1) [] g gV) (hx : Passes CX X E) (hn : n ≤ 1000)
    (ha : PA X (e :: es) t) (hdb : (x == ("__debug__" : Str)) = false := by decide) (he : starEach (e :: es) X.env = (false, eval e X.env) :: starEach es X.env := by rfl) (hpl : (backTo pos (starEach es X.env)).any (·.1) = false := by rfl) :
    PE X (.Call (.Name x p) (e :: es) [] pos) (tMkV C n 0 sp gV E t tNil) := by
  refine ⟨fun pins s σ H Q I h => ?_⟩
  refine wpAny_Call_Name_kw (ld_glob I hg hm ?_ hdb)
  refine PySem.W.callWith_K (h₀ := X.base) I.ok.mod.kin M.o.kC (thn (ha.run pos pins s σ H _ I h) fun us s1 ⟨vs, H1, I1, r, l1, l2, q⟩ => ⟨I1.kIn, ?_⟩) he hpl
  exact run_mkv (ks := []) (ws := []) (zs := []) M.o M.iC M.tI F hr hb hx I1 r .nil l1 rfl hn q
/-- C(k = v, ..) -/
theorem pe_mkv0 (M : MkvC X.K C fI) (F : FnOk X.prog X.w X.K X.mg X.base CX k fI fd ps sp) (hr : Room (k + 1) X.A) (hg : Gl X x) (hm : X.mg x = some (.ref C)) (hb : KBn X.K fd ps 1 ks g gV) (hx : Passes CX X E) (hkw : PK X kws tk)
    (hall : (backToKw pos (keywordEach kws X.env)).all (·.1.isSome) = true := by rfl) (hks : (backToKw pos (keywordEach kws X.env)).filterMap (·.1) = ks := by rfl) (hdb : (x == ("__debug__" : Str)) = false := by decide)
    (hpl : ((backTo pos (starEach [] X.env)).any (·.1) || (backToKw pos (keywordEach kws X.env)).any (·.1.isNone)) = false := by rfl) :
    PE X (.Call (.Name x p) [] kws pos) (tMkV C 0 ks.length sp gV E tNil tk) := by
  refine ⟨fun pins s σ H Q I h => ?_⟩
  refine wpAny_Call_Name_kw (ld_glob I hg hm ?_ hdb)
  refine PySem.W.callWith_KW0 (h₀ := X.base) I.ok.mod.kin M.o.kC hall ?_ hpl
  refine thn (hkw.run pos pins s σ H _ I h) fun ws s2 ⟨zs, H2, I2, rz, l1, l2, q2⟩ => ⟨I2.kIn, ?_⟩
  rw [hks]
  exact run_mkv (us := []) (vs := []) M.o M.iC M.tI F hr hb hx I2 .nil rz rfl l2 (by decide) q2
/-- C(e, .., k = v, ..) -/
theorem pe_mkvK (M : MkvC X.K C fI) (F : FnOk X.prog X.w X.K X.mg X.base CX k fI fd ps sp) (hr : Room (k + 1) X.A) (hg : Gl X x) (hm : X.mg x = some (.ref C)) (hb : KBn X.K fd ps (n + 1) ks g gV) (hx : Passes CX X E) (hn : n ≤ 1000) (ha : PA X (e :: es) t) (hkw : PK X kws tk)
    (hall : (backToKw pos (keywordEach kws X.env)).all (·.1.isSome) = true := by rfl) (hks : (backToKw pos (keywordEach kws X.env)).filterMap (·.1) = ks := by rfl) (hdb : (x == ("__debug__" : Str)) = false := by decide)
    (he : starEach (e :: es) X.env = (false, eval e X.env) :: starEach es X.env := by rfl) (hpl : ((backTo pos (starEach (e :: es) X.env)).any (·.1) || (backToKw pos (keywordEach kws X.env)).any (·.1.isNone)) = false := by rfl) :
    PE X (.Call (.Name x p) (e :: es) kws pos) (tMkV C n ks.length sp gV E t tk) := by
  refine ⟨fun pins s σ H Q I h => ?_⟩
  refine wpAny_Call_Name_kw (ld_glob I hg hm ?_ hdb)
  refine PySem.W.callWith_KW (h₀ := X.base) I.ok.mod.kin M.o.kC hall (thn (ha.run pos pins s σ H _ I h) fun us s1 ⟨vs, H1, I1, r, q⟩ => ?_) hpl he
  refine thn (hkw.run pos pins s1 σ H1 _ I1 q) fun ws s2 ⟨zs, H2, I2, rz, l1, l2, q2⟩ => ⟨I2.kIn, ?_⟩
  rw [hks]
  exact run_mkv M.o M.iC M.tI F hr hb hx I2 r rz l1 l2 hn q2
/-- C(), C(e), C an own class without own __init__ -/
theorem run_exc {Q : VK} {us : List Value} {bmB : List Value} {B newId initId : String} (F : ExcBaseFacts B newId initId bmB) (q : PySem.W.excIn X.K C bmB newId = true) (I : Inv X pins σ H s) (hl : us.length ≤ 1000)
    (h : ∀ a, H a = none → Q (.ref a) (upd H a (exo a C none))) : wpAny (model X.prog X.w) X.A (call (.ref C) us) (EP X pins σ Q) X.xe s := by
  obtain ⟨hp, gn, dr, tk, os⟩ := s
  obtain ⟨bm, N, nm, qn, bs, hdct, sn, sub, ab, col, dd, k0, k1, k2, k3, k5, mN, hC, hN, hni, T⟩ := exc_obj I.kIn q
  refine wpAny_call_exc_subT F T hC hN hni (fun h' a hm => ?_) (by rw [sizeLine_eq]; omega)
  have hn : H a = none := I.hok.gone hm.new
  obtain ⟨t, ht, _, _⟩ := hm.there
  exact ⟨.ref a, upd H a (exo a C none), I.laidN hm.keeps hm.new hn (exo_ok ht), rfl, h a hn⟩
end
end L2

set_option Elab.async false
set_option linter.all false
set_option maxRecDepth 100000
set_option maxHeartbeats 4000000
/-! Defs that are called while no repr is under way. -/
namespace XG
open PySem PySem.Spec PyProof.Rows L2
section
variable {CX : CXT} {P : Program} {w : World} {K : PySem.W.Frag} {mg : Str → Option Value} {base : Heap} {k : Nat} {f : Addr} {ps : List Str} {sp : Sp}
/-- the def at f keeps sp wherever no object is being shown -/
def FnG (P : Program) (w : World) (K : PySem.W.Frag) (mg : Str → Option Value) (base : Heap) (CX : CXT) (k : Nat) (f : Addr) (fd : FuncData) (ps : List Str) (sp : Sp) : Prop :=
  ∀ (A : Around) (outer : List Env) (s : Shared) (H : Hp) (args : Args) (us : List Value) (vs : List V) (Q : VK) (E : XK), A.guards = some [] → Room k A → Env0 P w K mg base A outer s H →
    BindsTo s fd args (ps.zip us) → Vals vs us → sp vs H Q E → codeAny (model P w) A (.call (.ref f) args) (CR CX outer P w H s Q E) s
theorem fnG_of {qual x : Str} {params : Arguments} {body : List Stmt} {scope : Scope} {dV kV doc pm cdv ct oc : Value} {an od : Option Addr} {osl : Array (Option Value)} {N : List Str}
    (lk : K.lookup f = some ⟨oc, od, .func (PySem.W.fnOf x qual params body scope dV kV doc pm an cdv ct), osl⟩) (hcd : PySem.W.codeIn K cdv qual = true) (S : FnScope N ps scope) (len : ∀ vs H Q E, sp vs H Q E → vs.length = ps.length)
    (walk : ∀ (A : Around) (outer : List Env) (s : Shared) (H : Hp) (vs : List V) (Q : VK) (E : XK), A.guards = some [] → Room k (A.deeper (envOfC qual scope s.heap.objs.size f cdv)) → sp vs H Q E →
      ∃ t, PSs (cxOf CX P w K mg base N qual scope f cdv A outer s H E) body t ∧ t { nx := fun _ H' => Q .non H', rt := Q } (start N vs) H) :
    FnG P w K mg base CX (k + 1) f (PySem.W.fnOf x qual params body scope dV kV doc pm an cdv ct) ps sp := by
  intro A outer s H args us vs Q E gd room e0 bd r h
  have n1 := len _ _ _ _ h
  have inH : ∀ b o, base.get? b = some o → s.heap.get? b = some o := fun b o e => (e0.bs b o e).1
  have kin : K.In s.heap := e0.mod.kin.keeps inH
  have par : ∀ y ∈ ps.zip us, scope.names.lookup y.1 = some .local ∨ (scope.names.lookup y.1 = some .cell ∧ ((cellsFrom (s.heap.objs.size + 1) scope.names []).lookup y.1).isSome = true) := by
    rintro ⟨y, z⟩ hy
    exact (S.par y (List.of_mem_zip hy).1).imp id fun q => ⟨q, PySem.W.cellsFrom_some _ _ _ (.inl q)⟩
  refine codeAny_call_function room.depth (kin _ _ lk) rfl S.co S.gen rfl (PySem.W.codeRec_of kin hcd) (bd _ _ _ _ (wpAny_newFunctionEnv_cells S.kind par fun env he s1 z => ?_))
  subst he
  refine ⟨(e0.mod.nolimit.keeps inH).keeps z.toInCall.keep, codeAny_func ?_⟩
  obtain ⟨t, body_ok, ends⟩ := walk A outer s H vs Q E gd (room.deeper _) h
  have J := inv_start (CX := CX) (E := E) S room.hd e0 n1 r z
  refine wpAny_mono (body_ok.run [] s1 _ H _ J ends) (fun fl s' q => ?_) fun e s' q => q
  rcases fl with u | _ | _ | _
  all_goals first
    | (obtain ⟨v, σ', H', J', rv, q⟩ := q; exact ⟨v, H', J'.os, J'.bare, J'.base, J'.hok, rv, q⟩)
    | (obtain ⟨σ', H', J', q⟩ := q; exact ⟨V.non, H', J'.os, J'.bare, J'.base, J'.hok, rfl, q⟩)
    | (obtain ⟨_, _, _, q⟩ := q; exact q.elim)
theorem Fun.okG {x qual : Str} {st : Stmt} {fd : FuncData} {N : List Str} (F : Fun K x qual st f fd) (S : FnScope N ps (defScope st)) (len : ∀ vs H Q E, sp vs H Q E → vs.length = ps.length)
    (walk : ∀ (cdv : Value) (A : Around) (outer : List Env) (s : Shared) (H : Hp) (vs : List V) (Q : VK) (E : XK), A.guards = some [] → Room k (A.deeper (envOfC qual (defScope st) s.heap.objs.size f cdv)) → sp vs H Q E →
      ∃ t, PSs (cxOf CX0 P w K mg base N qual (defScope st) f cdv A outer s H E).nox (defBody st) t ∧ t { nx := fun _ H' => Q .non H', rt := Q } (start N vs) H) : FnG P w K mg base CX0 (k + 1) f fd ps sp := by
  obtain ⟨oc, od, kV, doc, pm, an, cdv, ct, osl, rfl, lk, hcd⟩ := F.ex
  refine fnG_of lk hcd S len fun A outer s H vs Q E gd room h => ?_
  obtain ⟨t, a, b⟩ := walk cdv A outer s H vs Q E gd room h
  exact ⟨t, a.nox, b⟩
/-- the claim's call, from a heap in which nothing but the script is tracked -/
theorem core {mb : Str → Option Value} {fd : FuncData} {a : Addr} {x : Str} {s₁ : Shared} {vs : List Value} (kin : K.In s₁.heap) (hns : s₁.heap.Ns mainGlobals mg) (hb : s₁.heap.Ns builtinsNs mb) (hbb : ∀ x : Str, x ≠ "__name__" → mb x = bootBuiltins x)
    (lim : s₁.heap.NoLimit) (gens : s₁.gens = #[]) (ha : s₁.heap.get? a = some { cls := .type "list", data := .seq vs.toArray }) (room : Room k callerA)
    (F : ∀ base : Heap, K.In base → base.Ns mainGlobals mg → FnG P w K mg base CX k f fd [x] sp) (bind : ∀ (s : Shared) (u : Value), BindsTo s fd ⟨[u], []⟩ [(x, u)])
    (none' : ∀ H e s', CX [] H s₁ (fun _ _ _ => False) e s' → False) {H : Hp} (only : Only H) (h : sp [.ref a] H (fun v _ => v = .bl true) fun _ _ _ => False) (hok : HOk P w H s₁.heap) (at_a : ∀ b, H b ≠ none → b = a) (not_K : H a ≠ none → K.lookup a = none) :
    codeAny (model P w) callerA (.call (.ref f) ⟨[.ref a], []⟩) (fun r s' => r = .ok (.ret (.bool true)) ∧ OldK s₁.heap s'.heap ∧ s'.os = s₁.os ∧ AllBare s'.gens) s₁ := by
  have tr : ∀ {b : Addr}, H b ≠ none → H a ≠ none := fun {b} z => at_a b z ▸ z
  have nsI : ∀ {b : Addr} {m : Str → Option Value}, s₁.heap.Ns b m → (hidT s₁.heap H).Ns b m := fun {b m} ⟨o, es, ep, e, d, r⟩ => by
    refine ⟨o, es, ep, hidT_get e ?_, d, r⟩
    by_cases q : H b = none
    · exact q
    · obtain rfl := at_a b q
      rw [ha] at e
      cases e
      cases (show Data.seq vs.toArray _ = Data.dict es ep from d)
  have kinI : K.In (hidT s₁.heap H) := fun b o e => hidT_get (kin b o e) (by
    by_cases q : H b = none
    · exact q
    · obtain rfl := at_a b q
      rw [not_K q] at e
      cases e)
  obtain ⟨mc, lim1, lim2⟩ := lim
  have e0 : Env0 P w K mg (hidT s₁.heap H) callerA [] s₁ H := {
    frames := rfl
    mod := ⟨kinI, nsI hns, ⟨mb, nsI hb, hbb⟩, mc, nsI lim1, lim2⟩
    bs := fun b o e => of_hidT e
    bsz := Nat.le_of_eq (hidT_size _ _)
    funs := trivial
    frf := fun b z => absurd (show b ∈ ([] : List Addr) from z) List.not_mem_nil
    hok := hok
    bare := .of_eq gens }
  have run := F _ kinI (nsI hns) callerA [] s₁ H ⟨[.ref a], []⟩ [.ref a] [.ref a] _ _ rfl room e0 (bind s₁ (.ref a)) (.cons rfl .nil) h
  refine codeAny_mono run fun r s' z => ?_
  rcases r with e | (u | _ | _ | _)
  all_goals first | exact (none' H e s' z).elim | exact (show False from z).elim | skip
  obtain ⟨v, H', os, bare, un, hok', rv, q⟩ := z
  obtain rfl : v = .bl true := q
  cases (show _ = Value.bool true from rv)
  refine ⟨rfl, OldK.of_keep fun b o e => ?_, os, bare⟩
  cases q : H b with
  | none => exact un.keep b o e q (fun z => List.not_mem_nil (show b ∈ ([] : List Addr) from z)) List.not_mem_nil
  | some t =>
    rcases only b with z | ⟨ob, xs, z⟩
    · rw [q] at z
      cases z
    · have before := (hok b _ z).1
      rw [e] at before
      cases before
      exact (hok' b _ (un.frzs b _ _ z)).1
end
/-- the law's own call, from its promise -/
theorem walk_ofG {l : PySem.W.OpenLaw} {n k : Nat} {q : Program} {loose : List Str} {XP : (Str → Option Value) → Heap → Prop} {YP : World → Heap → Prop} {d : DefRec} {K : Params → PySem.W.Frag} {sp : World → Sp} {x : Str}
    (hn : l.most = some n) (hn2 : n ≤ sizeLine) (hdf : d.params.defaults = []) (room : Room k callerA) (hY : ∀ (w : World) (h : Heap), YP w h → (K w.params).In h)
    (F : ∀ (w : World) (mg : Str → Option Value) (fa : Addr) (h : Heap), (K w.params).In h → h.Ns mainGlobals mg → mg d.name = some (.ref fa) →
      ∃ fd : FuncData, (∀ (s : Shared) (u : Value), BindsTo s fd ⟨[u], []⟩ [(x, u)]) ∧ ∀ base : Heap, (K w.params).In base → base.Ns mainGlobals mg → FnG l.prog w (K w.params) mg base CX0 k fa fd [x] (sp w))
    (hsp : ∀ (w : World) (H : Hp) (a : Addr) (ns : List Int), ns.length ≤ n → Only H → SqL (K w.params) H a (ns.map V.int) → sp w [.ref a] H (fun v _ => v = .bl true) fun _ _ _ => False) :
    PySem.W.WalkO q loose XP YP l.row.toRowW d [] (fun f vs => PySem.call f vs) := by
  refine Att.attach_call hn hdf fun w s₀ s₁ mg mb fa o pm cd doc a vs ns G Y _ _ _ hmg obj hints short gens => ?_
  have kin := hY w _ Y
  obtain ⟨fd, bind, hF⟩ := F w mg fa _ kin G.T.g hmg
  have rv := vals_ints hints
  have lz : (ns.map V.int).length ≤ sizeLine := by rw [List.length_map]; exact Nat.le_trans short hn2
  have go : ∀ {H : Hp}, Only H → SqL (K w.params) H a (ns.map V.int) → HOk l.prog w H s₁.heap → (∀ b, H b ≠ none → b = a) → (H a ≠ none → (K w.params).lookup a = none) → _ :=
    fun {H} only seq hok at_a not_K => core kin G.T.g G.T.b G.T.builtins G.T.nolimit gens obj room hF bind (fun _ _ _ z => z) only (hsp w H a ns short only seq) hok at_a not_K
  cases hk : (K w.params).lookup a with
  | some u =>
    have e := kin a u hk
    rw [obj] at e
    cases e
    exact go (H := fun _ => none) (fun _ => .inl rfl) (.inr ⟨_, vs.toArray, _, hk, rfl, rfl, rfl, by rw [List.size_toArray, hints.length]; exact Nat.le_trans short hn2, by simpa using rv⟩)
      (fun b u z => nomatch (show (none : Option HO) = some u from z)) (fun b z => absurd rfl z) fun z => absurd rfl z
  | none =>
    let fz : HO := .frz { cls := .type "list", data := .seq vs.toArray } (.lst (ns.map V.int))
    have at_ : ∀ b, (upd (fun _ => none) a fz) b ≠ none → b = a := fun b z => by
      by_cases hb : b = a
      · exact hb
      · exact absurd (upd_ne hb) z
    refine go (H := upd (fun _ => none) a fz) (fun b => ?_) (.inl (.inr ⟨_, upd_same⟩)) (fun b u z => ?_) at_ fun _ => hk
    · by_cases hb : b = a
      · rw [hb]
        exact .inr ⟨_, _, upd_same⟩
      · exact .inl (upd_ne hb)
    · obtain rfl := at_ b (by rw [z]; exact fun q => nomatch q)
      rw [upd_same] at z
      cases z
      exact ⟨obj, lz, vs, _, rv, obj⟩
end XG

set_option Elab.async false
set_option linter.all false
set_option maxRecDepth 100000
set_option maxHeartbeats 4000000
namespace L2
open PySem PySem.Spec PyProof.Rows
/-! ### what a value shows -/
mutual
/-- v is the datum d in H; nothing of it stands at p -/
inductive Dq (p : Addr) (H : Hp) : V → PyData → Prop
  | non : Dq p H .non .none
  | bl (b : Bool) : Dq p H (.bl b) (.bool b)
  | int (i : Int) : Dq p H (.int i) (.int i)
  | str (x : Str) : Dq p H (.str x) (.str x)
  | lst {a : Addr} {xs : List V} {ds : List PyData} : H a = some (.lst xs) → a ≠ p → a ≠ sysModules → DqAll p H xs ds → Dq p H (.ref a) (.list ds)
  | tup {a : Addr} {xs : List V} {ds : List PyData} : H a = some (.tup xs) → a ≠ p → DqAll p H xs ds → Dq p H (.ref a) (.tuple ds)
  | dct {a : Addr} : H a = some (.dK []) → a ≠ p → Dq p H (.ref a) (.dict [])
inductive DqAll (p : Addr) (H : Hp) : List V → List PyData → Prop
  | nil : DqAll p H [] []
  | cons {v : V} {vs : List V} {d : PyData} {ds : List PyData} : Dq p H v d → DqAll p H vs ds → DqAll p H (v :: vs) (d :: ds)
end
mutual
theorem Dq.ex {p : Addr} {H H' : Hp} (e : ∀ b o, H b = some o → b ≠ p → H' b = some o) : ∀ {v : V} (d : PyData), Dq p H v d → Dq p H' v d
  | _, .none, .non => .non
  | _, .bool b, .bl _ => .bl b
  | _, .int i, .int _ => .int i
  | _, .str x, .str _ => .str x
  | _, .list _, .lst h m n a => .lst (e _ _ h m) m n (DqAll.ex e _ a)
  | _, .tuple _, .tup h m a => .tup (e _ _ h m) m (DqAll.ex e _ a)
  | _, .dict _, .dct h m => .dct (e _ _ h m) m
theorem DqAll.ex {p : Addr} {H H' : Hp} (e : ∀ b o, H b = some o → b ≠ p → H' b = some o) : ∀ {vs : List V} (ds : List PyData), DqAll p H vs ds → DqAll p H' vs ds
  | _, [], .nil => .nil
  | _, _ :: _, .cons h t => .cons (Dq.ex e _ h) (DqAll.ex e _ t)
end
section
variable {X : Cx} {pins : List (Addr × Obj)} {σ : St} {H : Hp} {s : Shared} {q : Addr}
mutual
theorem Dq.reads (I : Inv X pins σ H s) : ∀ (d : PyData) (v : V) (u : Value), Dq q H v d → RelV v u → ∃ as, Reads s.heap u d as ∧ sysModules ∉ as
  | .none, _, _, h, r => by
    cases h
    cases r
    exact ⟨_, Reads.none, List.not_mem_nil⟩
  | .bool b, _, _, h, r => by
    cases h
    cases r
    exact ⟨_, Reads.bool b, List.not_mem_nil⟩
  | .int i, _, _, h, r => by
    cases h
    obtain ⟨t, rfl⟩ := r
    exact ⟨_, Reads.int i t, List.not_mem_nil⟩
  | .str x, _, _, h, r => by
    cases h
    obtain ⟨t, rfl⟩ := r
    exact ⟨_, Reads.str x t, List.not_mem_nil⟩
  | .list ds, _, _, h, r => by
    cases h with
    | lst hs _ n ha =>
      cases r
      obtain ⟨_, its, m, rv, g⟩ := (show ObjOk X.prog X.w H s.heap _ (.lst _) from I.hok _ _ hs)
      obtain ⟨as, hr, hn⟩ := DqAll.reads I ds _ its ha rv
      exact ⟨_, Reads.list g rfl rfl (by simpa using hr), fun z => by
        rcases List.mem_cons.mp z with z | z
        · exact n z.symm
        · exact hn z⟩
  | .tuple ds, _, _, h, r => by
    cases h with
    | tup hs _ ha =>
      cases r
      obtain ⟨_, its, rv, o, g, c, n, dt⟩ := (show ObjOk X.prog X.w H s.heap _ (.tup _) from I.hok _ _ hs)
      obtain ⟨as, hr, hn⟩ := DqAll.reads I ds _ its ha rv
      exact ⟨_, Reads.tuple g c dt (by simpa using hr), hn⟩
  | .dict [], _, _, h, r => by
    cases h with
    | @dct a hs _ =>
      cases r
      obtain ⟨_, ne, vs, rel, o, es, ep, g, ty, dt, hk⟩ := dk_of I.hok hs
      cases rel
      obtain ⟨_, prs, _⟩ := hk
      have z : es.toList = [] := by
        cases h0 : es.toList with
        | nil => rfl
        | cons a r =>
          rw [h0] at prs
          cases prs
      have z2 : es = #[] := Array.toList_inj.mp z
      subst z2
      exact ⟨_, Reads.dict (as := []) (bs := []) g ty.1 dt .nil .nil, fun q => by
        have q' : sysModules = a := by simpa using q
        exact absurd q'.symm (beq_eq_false_iff_ne.mp ne)⟩
  | .dict (_ :: _), _, _, h, _ => by cases h
theorem DqAll.reads (I : Inv X pins σ H s) : ∀ (ds : List PyData) (vs : List V) (us : List Value), DqAll q H vs ds → Vals vs us → ∃ as, ReadsAll s.heap us ds as ∧ sysModules ∉ as
  | [], _, _, h, r => by
    cases h
    cases r
    exact ⟨_, ReadsAll.nil, List.not_mem_nil⟩
  | d :: ds, _, _, h, r => by
    cases h with
    | cons h1 h2 =>
      cases r with
      | cons r1 r2 =>
        obtain ⟨as, a1, n1⟩ := Dq.reads I d _ _ h1 r1
        obtain ⟨bs, a2, n2⟩ := DqAll.reads I ds _ _ h2 r2
        exact ⟨_, ReadsAll.cons a1 a2, fun z => (List.mem_append.mp z).elim n1 n2⟩
end
/-- repr(v) -/
def rRepr : List V → Hp → VK → Prop := fun xs H Q => ∃ (p : Addr) (v : V) (d : PyData), xs = [v] ∧ Dq p H v d ∧ d.showable = true ∧ d.depth ≤ 60 ∧ d.shown.length ≤ 100000 ∧ Q (.str d.shown) H
theorem call_reprG (hg : X.A.guards = some []) (hu : X.A.units + 64 < cLine) : CallR X (.builtin "repr") rRepr := by
  intro pins s σ H xs us Q I r h
  obtain ⟨p, v, d, rfl, hd, sh, dp, sz, q⟩ := h
  obtain ⟨u, rfl, ru⟩ := vals1 r
  have sz' : d.shown.length ≤ sizeLine := by rw [sizeLine_eq]; omega
  have by_ref : ∀ a : Addr, u = .ref a → wpAny (model X.prog X.w) X.A (call (.builtin "repr") [u]) (EP X pins σ Q) X.xe s := by
    rintro a rfl
    obtain ⟨as, rd, nm⟩ := hd.reads I d v _ ru
    exact repr_of_reads' rd sh (fun _ => nm) hg (by omega) (fun _ _ z => z) (fun h' u tk hk => ⟨.str _, H, I.kept (t' := tk) hk, ⟨u, rfl⟩, q⟩) sz'
  cases hd with
  | non =>
    cases ru
    exact PySem.P.repr_of_none ⟨.str _, H, I.tok _, ⟨_, rfl⟩, q⟩
  | bl b =>
    cases ru
    refine PySem.P.repr_of_bool ⟨.str _, H, I.tok _, ⟨_, rfl⟩, ?_⟩
    cases b <;> exact q
  | int i =>
    obtain ⟨t, rfl⟩ := ru
    exact PySem.P.repr_of_int (of_decide_eq_true sh) ⟨.str _, H, I.tok _, ⟨_, rfl⟩, q⟩
  | str x =>
    obtain ⟨t, rfl⟩ := ru
    exact PySem.P.repr_of_str ⟨.str _, H, I.tok _, ⟨_, rfl⟩, q⟩ (hsz := sz')
  | lst _ _ _ _ => exact by_ref _ ru
  | tup _ _ _ => exact by_ref _ ru
  | dct _ _ => exact by_ref _ ru
/-- [a, b, ..], told that it is not the table of modules -/
def tLstN (t : TA) : TE := fun σ H Q => t σ H fun xs H1 => xs.length ≤ sizeLine ∧ ∀ p, H1 p = none → p ≠ sysModules → Q (.ref p) (upd H1 p (.lst xs))
theorem pe_lstN {es : List Expr} {t : TA} {pos : Pos} (h : PA X es t) : PE X (.List es pos) (tLstN t) := by
  refine ⟨fun pins s σ H Q I hq => wpAny_List_spliced (thn (h.run pos pins s σ H _ I hq) fun us s1 ⟨xs, H1, I1, r, z, q⟩ => ⟨r.length ▸ z, ?_⟩)⟩
  have big : sysModules < s1.heap.objs.size := I1.big
  refine ⟨.ref s1.heap.objs.size, _, I1.laid (t' := s1.toks) (fun b u e => Heap.get?_push_of_some _ e) (Nat.le_refl _) ?_, rfl, q _ (I1.hok.fresh (Nat.le_refl _)) (Nat.ne_of_gt big)⟩
  exact ⟨z, us, 0, r, Heap.get?_push_size _ rfl⟩
variable {C : Addr} {x : Str} {p pos : Pos} {e : Expr} {es : List Expr} {t : TA} {bmB : List Value} {B newId initId : String}
/-- C(), C an own exception class without __init__ -/
def tExc0 (C : Addr) : TE := fun _ H Q => ∀ a, H a = none → Q (.ref a) (upd H a (exo a C none))
theorem pe_excv0 (F : ExcBaseFacts B newId initId bmB) (q : PySem.W.excIn X.K C bmB newId = true) (gC : X.mg x = some (.ref C)) (kC : PySem.W.keepIn X.K (.ref C) = true) (hg : Gl X x) (hdb : (x == ("__debug__" : Str)) = false := by decide) :
    PE X (.Call (.Name x p) [] [] pos) (tExc0 C) := by
  refine ⟨fun pins s σ H Q I h => wpAny_Call_Name_kw (ld_glob I hg gC ?_ hdb)⟩
  exact PySem.W.callWith_K0 I.kIn kC (run_exc (us := []) F q I (by decide) h)
/-- C(e) of such a class -/
def tExc1 (C : Addr) (te : TE) : TE := fun σ H Q => te σ H fun _ H1 => ∀ a, H1 a = none → Q (.ref a) (upd H1 a (exo a C none))
theorem pe_excv1 {te : TE} (F : ExcBaseFacts B newId initId bmB) (q : PySem.W.excIn X.K C bmB newId = true) (gC : X.mg x = some (.ref C)) (kC : PySem.W.keepIn X.K (.ref C) = true) (hg : Gl X x) (he : PE X e te)
    (hs : starEach [e] X.env = (false, eval e X.env) :: starEach [] X.env := by rfl) (hdb : (x == ("__debug__" : Str)) = false := by decide) : PE X (.Call (.Name x p) [e] [] pos) (tExc1 C te) := by
  refine ⟨fun pins s σ H Q I h => wpAny_Call_Name_kw (ld_glob I hg gC ?_ hdb)⟩
  refine PySem.W.callWith_K (h₀ := X.base) I.ok.mod.kin kC ?_ hs (by rfl)
  rw [hs]
  show wpAny _ _ (spliced ((false, eval e X.env) :: backTo pos (starEach [] X.env))) _ _ s
  refine Calls.spliced_cons (thn (he.run pins s σ H _ I h) fun u s1 ⟨v, H1, I1, r1, q1⟩ => Calls.spliced_nil ⟨I1.kIn, ?_⟩)
  exact run_exc (us := [u]) F q I1 (by show 1 ≤ 1000; decide) q1
end
/-! ### __init__(self, f): self.f = f -/
def spInit1 (K : PySem.W.Frag) (f : Str) : Sp := fun vs H Q _ => ∃ (a C : Addr) (y : V), vs = [.ref a, y] ∧ OexC K C ∧ PySem.W.findIn K (.ref C) f = some none ∧ H a = some (exo a C none) ∧
  ∀ d, H d = none → d ≠ a → Q .non (upd (upd H d (exd d [(f, y)])) a (exo a C (some d)))
def spInit2 (K : PySem.W.Frag) (f g : Str) : Sp := fun vs H Q _ => ∃ (a C : Addr) (y z : V), vs = [.ref a, y, z] ∧ OexC K C ∧ PySem.W.findIn K (.ref C) f = some none ∧ PySem.W.findIn K (.ref C) g = some none ∧ H a = some (exo a C none) ∧
  ∀ d, H d = none → d ≠ a → Q .non (upd (upd (upd H d (exd d [(f, y)])) a (exo a C (some d))) d (exd d [(g, z), (f, y)]))
theorem vis_of {N Ps : List Str} {sc : Scope} (S : FnScope N Ps sc) {x : Str} (h : x ∈ Ps) : Vis sc x := by
  rcases S.par x h with e | e
  · exact Or.inl e
  · exact Or.inr (Or.inl e)
section
variable {P : Program} {w : World} {K : PySem.W.Frag} {mg : Str → Option Value} {base : Heap} {fI : Addr} {fd : FuncData} {qual f g : Str} {st : Stmt} {q1 q2 q3 q4 r1 r2 r3 r4 : Pos}
theorem ok_init1 (F : Fun K "__init__" qual st fI fd) (hb : defBody st = [.Assign [.Attribute (.Name "self" q1) f q2] (.Name f q3) q4]) (S : FnScope ["self", f] ["self", f] (defScope st))
    (hs : ∀ env : Env, swapsWith (.Name f q3) (some (.Attribute (.Name "self" q1) f q2)) q4.line env = pure false) (h1 : (f == ("__debug__" : Str)) = false) (h2 : (f == ("__classdict__" : Str)) = false) : FnOk P w K mg base CX0 1 fI fd ["self", f] (spInit1 K f) := by
  refine F.ok S (fun vs H Q E h => ?_) (fun cdv A outer s H vs Q E hr h => ?_)
  · obtain ⟨a, C, y, rfl, _⟩ := h
    rfl
  · obtain ⟨a, C, y, rfl, T, hf, ea, k⟩ := h
    rw [hb]
    refine ⟨_, pss_one (ps_ost (pe_var (i := 0) rfl (vis_of S (by simp))) (pe_var (i := 1) rfl (vis_of S (by simp)) h1 h2) (hs _)), ?_⟩
    exact ⟨_, rfl, _, rfl, a, C, rfl, T, hf, .inl ⟨ea, k⟩⟩
theorem ok_init2 (F : Fun K "__init__" qual st fI fd) (hb : defBody st = [.Assign [.Attribute (.Name "self" q1) f q2] (.Name f q3) q4, .Assign [.Attribute (.Name "self" r1) g r2] (.Name g r3) r4]) (S : FnScope ["self", f, g] ["self", f, g] (defScope st))
    (hs : ∀ env : Env, swapsWith (.Name f q3) (some (.Attribute (.Name "self" q1) f q2)) q4.line env = pure false) (hs2 : ∀ env : Env, swapsWith (.Name g r3) (some (.Attribute (.Name "self" r1) g r2)) r4.line env = pure false)
    (h1 : (f == ("__debug__" : Str)) = false) (h2 : (f == ("__classdict__" : Str)) = false) (h3 : (g == ("__debug__" : Str)) = false) (h4 : (g == ("__classdict__" : Str)) = false) : FnOk P w K mg base CX0 1 fI fd ["self", f, g] (spInit2 K f g) := by
  refine F.ok S (fun vs H Q E h => ?_) (fun cdv A outer s H vs Q E hr h => ?_)
  · obtain ⟨a, C, y, z, rfl, _⟩ := h
    rfl
  · obtain ⟨a, C, y, z, rfl, T, hf, hg, ea, k⟩ := h
    rw [hb]
    refine ⟨_, pss_cons (ps_ost (pe_var (i := 0) rfl (vis_of S (by simp))) (pe_var (i := 1) rfl (vis_of S (by simp)) h1 h2) (hs _))
      (pss_one (ps_ost (pe_var (i := 0) rfl (vis_of S (by simp))) (pe_var (i := 2) rfl (vis_of S (by simp)) h3 h4) (hs2 _))), ?_⟩
    refine ⟨_, rfl, _, rfl, a, C, rfl, T, hf, .inl ⟨ea, fun d hd ne => ?_⟩⟩
    exact ⟨_, rfl, _, rfl, a, C, rfl, T, hg, .inr ⟨d, [(f, y)], upd_same, by rw [upd_ne ne, upd_same], (by show 1 ≤ 900; decide), k d hd ne⟩⟩
/-- how a call with keywords binds: no defaults -/
theorem Fun.kbn {x : Str} {ps ks : List Str} {n : Nat} {gv : List Value → List Value → List Value} {gV : List V → List V → List V} (F : Fun K x qual st fI fd)
    (hrel : ∀ {vs : List V} {us : List Value} {zs : List V} {ws : List Value}, Vals vs us → Vals zs ws → Vals (gV vs zs) (gv us ws))
    (h : ∀ (kV doc pm : Value) (an : Option Addr) (cdv ct : Value) (us ws : List Value), us.length = n → ws.length = ks.length → bindArgs (PySem.W.fnOf x qual (defArgs st) (defBody st) (defScope st) .none kV doc pm an cdv ct) ⟨us, ks.zip ws⟩ = pure (ps.zip (gv us ws))) : KBn K fd ps n ks gv gV := by
  obtain ⟨oc, od, kV, doc, pm, an, cdv, ct, osl, rfl, lk, hcd⟩ := F.ex
  exact ⟨fun s us ws X l1 l2 => .of_eq (h kV doc pm an cdv ct us ws l1 l2), hrel⟩
end
end L2

set_option Elab.async false
set_option linter.all false
set_option maxRecDepth 100000
set_option maxHeartbeats 4000000
/-! What an expression leaves, by a property that lasts. -/
namespace EvP
open PySem L2
def Ex (H H' : Hp) : Prop := ∀ a o, H a = some o → H' a = some o
theorem Ex.refl (H : Hp) : Ex H H := fun _ _ h => h
theorem Ex.trans {H H1 H2 : Hp} (a : Ex H H1) (b : Ex H1 H2) : Ex H H2 := fun x o h => b x o (a x o h)
theorem Ex.new {H : Hp} {p : Addr} {o : HO} (h : H p = none) : Ex H (upd H p o) := fun a u e => by rw [upd_ne (ne_of_none e h)]; exact e
theorem Ex.back {H H' : Hp} (e : Ex H H') {p : Addr} (h : H' p = none) : H p = none := by
  cases h1 : H p with
  | none => rfl
  | some o =>
    rw [e p o h1] at h
    cases h
/-- a property of a value that lasts while objects are only added -/
structure PR where
  R : V → Hp → Prop
  mono : ∀ v H H', Ex H H' → R v H → R v H'
/-- te gives a value with R, and only adds -/
def Gives (te : TE) (σ : St) (H : Hp) (P : PR) : Prop := ∀ H1, Ex H H1 → ∀ Q : VK, (∀ v H2, Ex H1 H2 → P.R v H2 → Q v H2) → te σ H1 Q
inductive All2 (H : Hp) : List PR → List V → Prop
  | nil : All2 H [] []
  | cons {P : PR} {Ps : List PR} {v : V} {vs : List V} : P.R v H → All2 H Ps vs → All2 H (P :: Ps) (v :: vs)
theorem All2.ex {H H' : Hp} (e : Ex H H') : ∀ {Ps : List PR} {vs : List V}, All2 H Ps vs → All2 H' Ps vs
  | _, _, .nil => .nil
  | _, _, .cons h t => .cons (PR.mono _ _ _ _ e h) (All2.ex e t)
theorem All2.length {H : Hp} : ∀ {Ps : List PR} {vs : List V}, All2 H Ps vs → vs.length = Ps.length
  | _, _, .nil => rfl
  | _, _, .cons _ t => congrArg Nat.succ (All2.length t)
theorem All2.append {H : Hp} : ∀ {Ps Qs : List PR} {vs ws : List V}, All2 H Ps vs → All2 H Qs ws → All2 H (Ps ++ Qs) (vs ++ ws)
  | _, _, _, _, .nil, k => k
  | _, _, _, _, .cons h t, k => .cons h (All2.append t k)
theorem All2.get {H : Hp} : ∀ {Ps : List PR} {vs : List V} {i : Nat} {P : PR}, All2 H Ps vs → Ps[i]? = some P → ∃ v, vs[i]? = some v ∧ P.R v H
  | _, _, _, _, .nil, e => by simp at e
  | _, _, 0, _, .cons h _, e => by
    simp at e
    subst e
    exact ⟨_, rfl, h⟩
  | _, _, i + 1, _, .cons _ t, e => by
    obtain ⟨v, h1, h2⟩ := All2.get (i := i) t (by simpa using e)
    exact ⟨v, by simpa using h1, h2⟩
def GivesA (ta : TA) (σ : St) (H : Hp) (Ps : List PR) : Prop := ∀ H1, Ex H H1 → ∀ Q : List V → Hp → Prop, (∀ vs H2, Ex H1 H2 → All2 H2 Ps vs → Q vs H2) → ta σ H1 Q
/-- this very value -/
def is (v : V) : PR := ⟨fun u _ => u = v, fun _ _ _ _ h => h⟩
/-- a tuple of such -/
def tup (Ps : List PR) : PR := ⟨fun u H => ∃ a vs, u = .ref a ∧ H a = some (.tup vs) ∧ All2 H Ps vs, fun _ _ _ e ⟨a, vs, h1, h2, h3⟩ => ⟨a, vs, h1, e _ _ h2, h3.ex e⟩⟩
/-- a list of such, new over H0 -/
def lst (H0 : Hp) (Ps : List PR) : PR := ⟨fun u H => ∃ a vs, u = .ref a ∧ H a = some (.lst vs) ∧ H0 a = none ∧ All2 H Ps vs, fun _ _ _ e ⟨a, vs, h1, h2, h0, h3⟩ => ⟨a, vs, h1, e _ _ h2, h0, h3.ex e⟩⟩
/-- the same, and not the table of modules -/
def lstN (H0 : Hp) (Ps : List PR) : PR := ⟨fun u H => ∃ a vs, u = .ref a ∧ H a = some (.lst vs) ∧ H0 a = none ∧ a ≠ sysModules ∧ All2 H Ps vs, fun _ _ _ e ⟨a, vs, h1, h2, h0, hn, h3⟩ => ⟨a, vs, h1, e _ _ h2, h0, hn, h3.ex e⟩⟩
/-- an exception of the class at C with these fields -/
def err (C : Addr) (fs : List (Str × V)) : PR := ⟨fun u H => ∃ a, u = .ref a ∧ ErrAt H a C fs, fun _ _ _ e ⟨a, h1, h2⟩ => ⟨a, h1, h2.ex e⟩⟩
section
variable {K : PySem.W.Frag} {σ : St} {H : Hp} {te tf : TE} {ta tb : TA} {P : PR} {Ps Qs : List PR} {v : V} {i : Nat} {C fI : Addr} {f g : Str} {x y z : V}
theorem var (h : σ[i]? = some (some v)) : Gives (tVar i) σ H (is v) := fun H1 _ _ q => ⟨v, h, q _ _ (Ex.refl H1) rfl⟩
theorem cst : Gives (tC v) σ H (is v) := fun H1 _ _ q => q _ _ (Ex.refl H1) rfl
theorem nil : GivesA tNil σ H [] := fun H1 _ _ q => q _ _ (Ex.refl H1) .nil
theorem cons (h : Gives te σ H P) (t : GivesA ta σ H Ps) : GivesA (tCons te ta) σ H (P :: Ps) := fun H1 e Q q =>
  h H1 e _ fun v H2 e2 hv => t H2 (e.trans e2) _ fun vs H3 e3 hs => q _ _ (e2.trans e3) (.cons (P.mono _ _ _ e3 hv) hs)
theorem tuple (h : GivesA ta σ H Ps) (hl : Ps.length ≤ 1000) : Gives (tTup ta) σ H (tup Ps) := fun H1 e Q q =>
  h H1 e _ fun vs H2 e2 hs => ⟨by rw [hs.length, sizeLine_eq]; omega, fun p hp => q _ _ (e2.trans (Ex.new hp)) ⟨p, vs, rfl, upd_same, hs.ex (Ex.new hp)⟩⟩
theorem list {H0 : Hp} (e0 : Ex H0 H) (h : GivesA ta σ H Ps) (hl : Ps.length ≤ 1000) : Gives (tLst ta) σ H (lst H0 Ps) := fun H1 e Q q =>
  h H1 e _ fun vs H2 e2 hs => ⟨by rw [hs.length, sizeLine_eq]; omega, fun p hp => q _ _ (e2.trans (Ex.new hp)) ⟨p, vs, rfl, upd_same, ((e0.trans e).trans e2).back hp, hs.ex (Ex.new hp)⟩⟩
theorem listN {H0 : Hp} (e0 : Ex H0 H) (h : GivesA ta σ H Ps) (hl : Ps.length ≤ 1000) : Gives (tLstN ta) σ H (lstN H0 Ps) := fun H1 e Q q =>
  h H1 e _ fun vs H2 e2 hs => ⟨by rw [hs.length, sizeLine_eq]; omega, fun p hp hn => q _ _ (e2.trans (Ex.new hp)) ⟨p, vs, rfl, upd_same, ((e0.trans e).trans e2).back hp, hn, hs.ex (Ex.new hp)⟩⟩
/-- xs + ys, both new -/
theorem cat {H0 : Hp} (e0 : Ex H0 H) (h : Gives te σ H (lst H0 Ps)) (k : Gives tf σ H (lst H0 Qs)) (hl : Ps.length + Qs.length ≤ 1000) : Gives (tOp rCat te tf) σ H (lst H0 (Ps ++ Qs)) := fun H1 e Q q => by
  refine h H1 e _ fun v H2 e2 hv => k H2 (e.trans e2) _ fun u H3 e3 hu => ?_
  obtain ⟨a, vs, rfl, ha, na, va⟩ := (lst H0 Ps).mono _ _ _ e3 hv
  obtain ⟨b, ws, rfl, hb, nb, vb⟩ := hu
  refine ⟨a, b, vs, ws, rfl, rfl, ha, hb, by rw [va.length, vb.length, sizeLine_eq]; omega, fun p hp => ?_⟩
  exact q _ _ ((e2.trans e3).trans (Ex.new hp)) ⟨p, _, rfl, upd_same, (((e0.trans e).trans e2).trans e3).back hp, (va.append vb).ex (Ex.new hp)⟩
theorem varP (h : σ[i]? = some (some v)) (hp : P.R v H) : Gives (tVar i) σ H P := fun H1 e _ q => ⟨v, h, q _ _ (Ex.refl H1) (P.mono _ _ _ e hp)⟩
/-- C(e): the one field -/
theorem err1 {gV : List V → List V → List V} (T : OexC K C) (hf : PySem.W.findIn K (.ref C) f = some none) (h : Gives te σ H (is y)) (hg : ∀ a u, gV [.ref a, u] [] = [.ref a, u]) : Gives (tMkV C 1 0 (spInit1 K f) gV E0 (tCons te tNil) tNil) σ H (err C [(f, y)]) := fun H1 e Q q =>
  h H1 e _ fun v H2 e2 hv => ⟨rfl, rfl, fun a ha => by
    rw [hg, show v = y from hv]
    refine ⟨a, C, y, rfl, T, hf, upd_same, fun d hd ne => ⟨rfl, q _ _ (e2.trans ?_) ⟨a, rfl, .inr ⟨d, upd_same, by rw [upd_ne ne, upd_same]⟩⟩⟩⟩
    have hd' : H2 d = none := by rw [upd_ne ne] at hd; exact hd
    intro b o z
    rw [upd_ne (ne_of_none z ha), upd_ne (ne_of_none z hd'), upd_ne (ne_of_none z ha)]
    exact z⟩
/-- C(f = e) -/
theorem err1K {gV : List V → List V → List V} (T : OexC K C) (hf : PySem.W.findIn K (.ref C) f = some none) (h : Gives te σ H (is y)) (hg : ∀ a u, gV [.ref a] [u] = [.ref a, u]) : Gives (tMkV C 0 1 (spInit1 K f) gV E0 tNil (tCons te tNil)) σ H (err C [(f, y)]) := fun H1 e Q q =>
  h H1 e _ fun v H2 e2 hv => ⟨rfl, rfl, fun a ha => by
    rw [hg, show v = y from hv]
    refine ⟨a, C, y, rfl, T, hf, upd_same, fun d hd ne => ⟨rfl, q _ _ (e2.trans ?_) ⟨a, rfl, .inr ⟨d, upd_same, by rw [upd_ne ne, upd_same]⟩⟩⟩⟩
    have hd' : H2 d = none := by rw [upd_ne ne] at hd; exact hd
    intro b o z
    rw [upd_ne (ne_of_none z ha), upd_ne (ne_of_none z hd'), upd_ne (ne_of_none z ha)]
    exact z⟩
theorem init2_end {H1 H2 : Hp} {Q : VK} {a d : Addr} (e : Ex H1 H2) (ha : H2 a = none) (hd : upd H2 a (exo a C none) d = none) (ne : d ≠ a) (q : ∀ v H3, Ex H1 H3 → (err C [(g, z), (f, y)]).R v H3 → Q v H3) :
    Q (.ref a) (upd (upd (upd (upd H2 a (exo a C none)) d (exd d [(f, y)])) a (exo a C (some d))) d (exd d [(g, z), (f, y)])) := by
  have hd' : H2 d = none := by rw [upd_ne ne] at hd; exact hd
  refine q _ _ (e.trans fun b o w => ?_) ⟨a, rfl, .inr ⟨d, by rw [upd_ne ne.symm, upd_same], upd_same⟩⟩
  rw [upd_ne (ne_of_none w hd'), upd_ne (ne_of_none w ha), upd_ne (ne_of_none w hd'), upd_ne (ne_of_none w ha)]
  exact w
/-- C(f = e, g = e') in the written order of the two -/
theorem err2K {gV : List V → List V → List V} (T : OexC K C) (hf : PySem.W.findIn K (.ref C) f = some none) (hg0 : PySem.W.findIn K (.ref C) g = some none) (h : Gives te σ H (is z)) (k : Gives tf σ H (is y))
    (hg : ∀ a u w, gV [.ref a] [u, w] = [.ref a, w, u]) : Gives (tMkV C 0 2 (spInit2 K f g) gV E0 tNil (tCons te (tCons tf tNil))) σ H (err C [(g, z), (f, y)]) := fun H1 e Q q =>
  h H1 e _ fun v H2 e2 hv => k H2 (e.trans e2) _ fun u H3 e3 hu => ⟨rfl, rfl, fun a ha => by
    rw [hg, show v = z from hv, show u = y from hu]
    exact ⟨a, C, y, z, rfl, T, hf, hg0, upd_same, fun d hd ne => ⟨rfl, init2_end (e2.trans e3) ha hd ne q⟩⟩⟩
/-- C(e, g = e') -/
theorem err2P {gV : List V → List V → List V} (T : OexC K C) (hf : PySem.W.findIn K (.ref C) f = some none) (hg0 : PySem.W.findIn K (.ref C) g = some none) (h : Gives te σ H (is y)) (k : Gives tf σ H (is z))
    (hg : ∀ a u w, gV [.ref a, u] [w] = [.ref a, u, w]) : Gives (tMkV C 1 1 (spInit2 K f g) gV E0 (tCons te tNil) (tCons tf tNil)) σ H (err C [(g, z), (f, y)]) := fun H1 e Q q =>
  h H1 e _ fun v H2 e2 hv => k H2 (e.trans e2) _ fun u H3 e3 hu => ⟨rfl, rfl, fun a ha => by
    rw [hg, show v = y from hv, show u = z from hu]
    exact ⟨a, C, y, z, rfl, T, hf, hg0, upd_same, fun d hd ne => ⟨rfl, init2_end (e2.trans e3) ha hd ne q⟩⟩⟩
theorem err0 : Gives (tExc0 C) σ H (err C []) := fun H1 _ Q q a ha => q _ _ (Ex.new ha) ⟨a, rfl, .inl ⟨rfl, upd_same⟩⟩
variable {u : TS} {D : Ends}
theorem st_set (h : Gives te σ H P) (k : ∀ v H1, Ex H H1 → P.R v H1 → u D (σ.set i (some v)) H1) : tSeq (tAsg te (gName i)) u D σ H := h H (Ex.refl H) _ k
theorem go {Q : VK} (h : Gives te σ H P) (k : ∀ v H1, Ex H H1 → P.R v H1 → Q v H1) : te σ H Q := h H (Ex.refl H) _ k
theorem st_ret (h : Gives te σ H P) (k : ∀ v H1, Ex H H1 → P.R v H1 → D.rt v H1) : tRet te D σ H := h H (Ex.refl H) _ k
end
end EvP

set_option Elab.async false
set_option linter.all false
set_option maxRecDepth 100000
set_option maxHeartbeats 4000000
/-! Whole numbers from 0 on and their texts. -/
namespace Dg
open PySem PySem.NumText
/-- the signs of a number -/
def dl (n : Nat) : List Nat := (Nat.toDigits 10 n).map Char.toNat
theorem dc : ∀ d, d < 10 → (Nat.digitChar d).toNat = 48 + d := by decide
theorem dl_lt {n : Nat} (h : n < 10) : dl n = [48 + n] := by
  unfold dl
  rw [Nat.toDigits_of_lt_base h]
  exact congrArg (fun x => [x]) (dc n h)
theorem dl_ge {n : Nat} (h : 10 ≤ n) : dl n = dl (n / 10) ++ [48 + n % 10] := by
  unfold dl
  rw [Nat.toDigits_of_base_le (by decide) h, List.map_append]
  exact congrArg (fun x => _ ++ [x]) (dc _ (Nat.mod_lt _ (by decide)))
theorem dl_ten {v d : Nat} (hv : 0 < v) (hd : d < 10) : dl (v * 10 + d) = dl v ++ [48 + d] := by
  rw [dl_ge (by omega), show (v * 10 + d) / 10 = v by omega, show (v * 10 + d) % 10 = d by omega]
theorem dl_ne (n : Nat) : dl n ≠ [] := by
  intro h
  exact Nat.toDigits_ne_nil (List.map_eq_nil_iff.mp h)
/-- k signs of a number -/
def pad : Nat → Nat → List Nat
  | 0, _ => []
  | k + 1, n => pad k (n / 10) ++ [48 + n % 10]
theorem pad_len : ∀ k n, (pad k n).length = k
  | 0, _ => rfl
  | k + 1, n => by
    show (pad k (n / 10) ++ _).length = _
    rw [List.length_append, pad_len k]
    rfl
theorem pad_zero : ∀ k, pad k 0 = List.replicate k 48
  | 0 => rfl
  | k + 1 => by
    show pad k (0 / 10) ++ [48] = _
    rw [show 0 / 10 = 0 from rfl, pad_zero k, List.replicate_succ']
/-- a text of at most k signs, filled up -/
theorem pad_dl : ∀ (k n : Nat), n < 10 ^ (k + 1) → (dl n).length ≤ k + 1 ∧ List.replicate (k + 1 - (dl n).length) 48 ++ dl n = pad (k + 1) n
  | 0, n, h => by
    have h' : n < 10 := h
    rw [dl_lt h']
    refine ⟨Nat.le_refl _, ?_⟩
    show [48 + n] = [48 + n % 10]
    rw [Nat.mod_eq_of_lt h']
  | k + 1, n, h => by
    by_cases c : n < 10
    · rw [dl_lt c]
      refine ⟨by show 1 ≤ _; omega, ?_⟩
      show List.replicate (k + 1 + 1 - 1) 48 ++ [48 + n] = pad (k + 1) (n / 10) ++ [48 + n % 10]
      rw [Nat.mod_eq_of_lt c, show n / 10 = 0 by omega, pad_zero]
      rfl
    · obtain ⟨l, e⟩ := pad_dl k (n / 10) (by rw [Nat.pow_succ] at h; omega)
      rw [dl_ge (by omega), List.length_append]
      refine ⟨by show (dl (n / 10)).length + 1 ≤ _; omega, ?_⟩
      show List.replicate (k + 1 + 1 - ((dl (n / 10)).length + 1)) 48 ++ (dl (n / 10) ++ _) = pad (k + 1) (n / 10) ++ [48 + n % 10]
      rw [← e, List.append_assoc, show k + 1 + 1 - ((dl (n / 10)).length + 1) = k + 1 - (dl (n / 10)).length by omega]
theorem dl_pad : ∀ (k q r : Nat), 0 < q → r < 10 ^ k → dl (q * 10 ^ k + r) = dl q ++ pad k r
  | 0, q, r, _, hr => by
    have : r = 0 := by simpa using hr
    subst this
    show dl (q * 1 + 0) = dl q ++ []
    rw [List.append_nil, Nat.mul_one, Nat.add_zero]
  | k + 1, q, r, hq, hr => by
    have e : q * 10 ^ (k + 1) + r = (q * 10 ^ k + r / 10) * 10 + r % 10 := by
      rw [Nat.pow_succ, ← Nat.mul_assoc]
      omega
    have hp : 0 < q * 10 ^ k := Nat.mul_pos hq (Nat.pow_pos (by decide))
    rw [e, dl_ten (by omega) (Nat.mod_lt _ (by decide)), dl_pad k q (r / 10) hq (by rw [Nat.pow_succ] at hr; omega), List.append_assoc]
    rfl
theorem val_snoc (cs : List Nat) (c : Nat) : digitsVal (cs ++ [c]) = digitsVal cs * 10 + (c - 48) := by
  unfold digitsVal
  rw [List.foldl_append]
  rfl
theorem val_from : ∀ (cs : List Nat) (a : Nat), cs.foldl (fun acc c => acc * 10 + (c - 48)) a = a * 10 ^ cs.length + digitsVal cs
  | [], a => by show a = a * 1 + 0; omega
  | c :: cs, a => by
    rw [List.foldl_cons, val_from cs]
    unfold digitsVal
    rw [List.foldl_cons, val_from cs (0 * 10 + (c - 48)), List.length_cons, Nat.pow_succ, Nat.zero_mul, Nat.zero_add, Nat.add_mul, Nat.mul_assoc, Nat.mul_comm 10]
    unfold digitsVal
    omega
theorem val_app (xs ys : List Nat) : digitsVal (xs ++ ys) = digitsVal xs * 10 ^ ys.length + digitsVal ys := by
  unfold digitsVal
  rw [List.foldl_append, val_from]
  rfl
theorem val_cons (c : Nat) (cs : List Nat) : digitsVal (c :: cs) = (c - 48) * 10 ^ cs.length + digitsVal cs := by
  rw [show c :: cs = [c] ++ cs from rfl, val_app]
  congr 2
  show 0 * 10 + (c - 48) = _
  omega
theorem val_lt : ∀ {cs : List Nat}, AllDigits cs → digitsVal cs < 10 ^ cs.length
  | [], _ => by decide
  | c :: cs, h => by
    have i := val_lt h.tail
    have hc := h.head
    rw [val_cons, List.length_cons, Nat.pow_succ]
    have : (c - 48) * 10 ^ cs.length ≤ 9 * 10 ^ cs.length := Nat.mul_le_mul_right _ (by omega)
    omega
/-- digits that do not begin with 0 -/
structure Plain (cs : List Nat) : Prop where
  dig : AllDigits cs
  ne : cs ≠ []
  no : cs.head? ≠ some 48
theorem val_pos {cs : List Nat} (h : Plain cs) : 0 < digitsVal cs := by
  cases cs with
  | nil => exact absurd rfl h.ne
  | cons c cs =>
    have hc := h.dig.head
    have : c ≠ 48 := fun e => h.no (by rw [e]; rfl)
    rw [val_cons]
    have : 1 * 10 ^ cs.length ≤ (c - 48) * 10 ^ cs.length := Nat.mul_le_mul_right _ (by omega)
    have : 0 < 10 ^ cs.length := Nat.pow_pos (by decide)
    omega
theorem dl_val_rev : ∀ (rs : List Nat), Plain rs.reverse → dl (digitsVal rs.reverse) = rs.reverse
  | [], h => absurd rfl h.ne
  | c :: rs, h => by
    have hc : 48 ≤ c ∧ c ≤ 57 := h.dig c (by rw [List.reverse_cons]; exact List.mem_append_right _ (.head _))
    rw [List.reverse_cons, val_snoc]
    by_cases e : rs = []
    · subst e
      show dl (0 * 10 + (c - 48)) = [c]
      rw [dl_lt (by omega), Nat.zero_mul, Nat.zero_add]
      exact congrArg (fun x => [x]) (by omega)
    · have p : Plain rs.reverse := ⟨fun x hx => h.dig x (by rw [List.reverse_cons]; exact List.mem_append_left _ hx), by simpa using e, fun z => h.no (by
        rw [List.reverse_cons]
        cases hr : rs.reverse with
        | nil => rw [hr] at z; cases z
        | cons y ys => rw [hr] at z; exact z)⟩
      rw [dl_ten (val_pos p) (by omega), dl_val_rev rs p]
      exact congrArg (fun x => _ ++ [x]) (by omega)
theorem dl_val {cs : List Nat} (h : Plain cs) : dl (digitsVal cs) = cs := by
  have := dl_val_rev cs.reverse (by rw [List.reverse_reverse]; exact h)
  rw [List.reverse_reverse] at this
  exact this
/-! texts -/
/-- the text of a number -/
def numT (n : Int) : Str := Str.ofString (toString n)
def valT (x : Str) : Nat := digitsVal x.cps.toList
theorem ofNat_cps (n : Nat) : (Str.ofString (toString n)).cps.toList = dl n := by
  rw [Str.ofString_eq_toList]
  show (List.map Char.toNat (Nat.repr n).toList) = _
  rw [Nat.toList_repr]
  rfl
theorem numT_cps {n : Int} (h : 0 ≤ n) : (numT n).cps.toList = dl n.toNat := by
  obtain ⟨m, rfl⟩ := Int.eq_ofNat_of_zero_le h
  exact ofNat_cps m
theorem ext {a b : Str} (h : a.cps.toList = b.cps.toList) : a = b := by
  cases a
  cases b
  exact congrArg Str.mk (Array.toList_inj.mp h)
theorem app_cps (a b : Str) : (a ++ b).cps.toList = a.cps.toList ++ b.cps.toList := Array.toList_append
theorem len_cps (a : Str) : a.cps.toList.length = a.length := Array.length_toList
theorem numT_val {x : Str} (h : Plain x.cps.toList) : numT (valT x : Nat) = x := ext (by
  rw [numT_cps (Int.natCast_nonneg _)]
  exact dl_val h)
theorem dl_digits (n : Nat) : AllDigits (dl n) := by
  refine Nat.strongRecOn n fun n ih => ?_
  by_cases c : n < 10
  · rw [dl_lt c]
    intro x hx
    rw [List.mem_singleton] at hx
    omega
  · rw [dl_ge (by omega)]
    intro x hx
    rcases List.mem_append.mp hx with hx | hx
    · exact ih (n / 10) (by omega) x hx
    · rw [List.mem_singleton] at hx
      omega
theorem dl_head (n : Nat) (h : 0 < n) : (dl n).head? ≠ some 48 := by
  revert h
  refine Nat.strongRecOn n fun n ih h => ?_
  by_cases c : n < 10
  · rw [dl_lt c]
    simp
    omega
  · rw [dl_ge (by omega)]
    have i := ih (n / 10) (by omega) (by omega)
    intro z
    cases hr : dl (n / 10) with
    | nil => exact dl_ne _ hr
    | cons y ys => rw [hr] at z i; exact i z
theorem dl_plain {n : Nat} (h : 0 < n) : Plain (dl n) := ⟨dl_digits n, dl_ne n, dl_head n h⟩
theorem val_dl (n : Nat) : digitsVal (dl n) = n := by
  refine Nat.strongRecOn n fun n ih => ?_
  by_cases c : n < 10
  · rw [dl_lt c]
    show 0 * 10 + (48 + n - 48) = n
    omega
  · rw [dl_ge (by omega), val_snoc, ih (n / 10) (by omega)]
    omega
theorem valT_num {n : Int} (h : 0 ≤ n) : (valT (numT n) : Int) = n := by
  unfold valT
  rw [numT_cps h, val_dl]
  omega
/-- str(rest).zfill(64) -/
theorem zfill_cps {n : Nat} {k : Nat} (h : n < 10 ^ (k + 1)) : (Txt.zfill (Str.ofString (toString n)) ((k + 1 : Nat) : Int)).cps.toList = pad (k + 1) n := by
  obtain ⟨l, e⟩ := pad_dl k n h
  have hl : (Str.ofString (toString n)).length = (dl n).length := by rw [← len_cps, ofNat_cps]
  unfold Txt.zfill
  by_cases c : ((k + 1 : Nat) : Int) ≤ ((Str.ofString (toString n)).length : Nat)
  · rw [if_pos c, ofNat_cps]
    rw [← e, show k + 1 - (dl n).length = 0 by omega]
    rfl
  · rw [if_neg c]
    have hz : zfilled (Str.ofString (toString n)) (((k + 1 : Nat) : Int).toNat - (Str.ofString (toString n)).length) = Builtin.Str.padded (Str.ofString (toString n)) (((k + 1 : Nat) : Int).toNat - (Str.ofString (toString n)).length) 0 48 := by
      unfold zfilled
      have h0 : (Str.ofString (toString n)).cps[0]? = (dl n)[0]? := by rw [← ofNat_cps, Array.getElem?_toList]
      rw [h0]
      cases hd : dl n with
      | nil => exact absurd hd (dl_ne n)
      | cons y ys =>
        have hy : 48 ≤ y ∧ y ≤ 57 := dl_digits n y (by rw [hd]; exact .head _)
        show (match some y with | some 43 | some 45 => _ | _ => _) = _
        split
        · rename_i z
          cases z
          omega
        · rename_i z
          cases z
          omega
        · rfl
    rw [hz, ← e]
    show ((Array.replicate _ 48 ++ _ ++ Array.replicate _ _).toList) = _
    have h1 : (Str.ofString n.repr).cps.toList = dl n := ofNat_cps n
    have h2 : (Str.ofString n.repr).length = (dl n).length := hl
    simp [h1, h2]
end Dg

set_option Elab.async false
set_option linter.all false
set_option maxRecDepth 100000
set_option maxHeartbeats 4000000
/-! The text of a number. -/
namespace Dg
open PySem
theorem flat_join : ∀ l : List Str, (Txt.join "" l).cps.toList = (l.map fun x => x.cps.toList).flatten := fun l => by
  rw [TL.join_eq]
  induction l with
  | nil => rfl
  | cons a r ih =>
    cases r with
    | nil =>
      show a.cps.toList = a.cps.toList ++ [].flatten
      rw [List.flatten_nil, List.append_nil]
    | cons b r =>
      show (a ++ ("" : Str) ++ Str.join "" (b :: r)).cps.toList = _
      rw [app_cps, app_cps, ih]
      show a.cps.toList ++ [] ++ _ = _
      rw [List.append_nil]
      rfl
theorem sum_len : ∀ l : List Str, (l.map (·.length)).sum = (l.map fun x => x.cps.toList).flatten.length
  | [] => rfl
  | a :: r => by
    rw [List.map_cons, List.sum_cons, sum_len r, List.map_cons, List.flatten_cons, List.length_append, len_cps]
theorem dl_len_lt {n : Nat} {k : Nat} (h : n < 10 ^ (k + 1)) : (dl n).length ≤ k + 1 := (pad_dl k n h).1
end Dg
namespace Fk
open PySem PySem.Spec PyProof.Rows L2 Dg
abbrev sNum : Stmt := top 26
abbrev numT := Dg.numT
def spNum : Sp := fun vs H Q _ => ∃ n : Int, vs = [.int n] ∧ 0 ≤ n ∧ (dl n.toNat).length ≤ 10000 ∧ ∀ H', EvP.Ex H H' → Q (.str (numT n)) H'
theorem scNum : FnScope ["number", "parts", "rest"] ["number"] (defScope sNum) := ⟨rfl, rfl, rfl, by decide +kernel, rfl, by decide +kernel, by decide +kernel⟩
theorem log_small {n : Int} (h0 : 0 ≤ n) (h1 : n < 10 ^ 64) : n.natAbs.log2 < 1920 := by
  by_cases h : n.natAbs = 0
  · rw [h]
    decide
  · refine (Nat.log2_lt h).mpr ?_
    have : n.natAbs < 10 ^ 64 := by omega
    exact Nat.lt_of_lt_of_le this (by decide)
theorem pss_dead {X : Cx} {st : List Stmt} : PSs X st (fun _ _ _ => False) := ⟨fun _ _ _ _ _ _ h => h.elim⟩
theorem div_ok (i : Int) : CDivP i ((10 : Int) ^ (64 : Int).toNat) := ⟨by decide, by
  unfold Builtin.divisionGoesByPylong
  have : decide ((if ((10 : Int) ^ (64 : Int).toNat) == 0 then 0 else ((10 : Int) ^ (64 : Int).toNat).natAbs.log2 / 30 + 1) > 300) = false := by decide +kernel
  exact Bool.and_eq_false_iff.mpr (.inl this)⟩
section
variable {P : Program} {w : World} {K : PySem.W.Frag} {mg : Str → Option Value} {base : Heap} {f : Addr} {fd : FuncData}
theorem ok_num {tC : Tok} (F : Fun K "number_text" "number_text" sNum f fd) (T : Blt mg) (hD : mg "divmod" = none) (gC : mg "CHUNK" = some (.int 64 tC)) : FnOk P w K mg base CX0 1 f fd ["number"] spNum := by
  have nd := scNum.nd
  refine F.ok scNum (fun vs H Q E h => ?_) (fun cdv A outer s H vs Q E hr h => ?_)
  · obtain ⟨n, rfl, _⟩ := h
    rfl
  · obtain ⟨n, rfl, h0, h1, q⟩ := h
    refine ⟨_, pss_cons (ps_set (i := 1) nd rfl (Or.inl rfl) (pe_lst pa_nil)) (pss_cons (ps_while PassesOwn.never (pt_cmpR op_ge (pv 0) (pe_op op_pow pe_int pe_int) (nomark _))
        (pss_cons (ps_asg (pe_callB call_divmodW (by rfl) hD (by decide +kernel) (pa_cons (pv 0) (pa_cons (pe_op op_pow pe_int pe_int) pa_nil))) (pg_tup rfl (pgs_cons (pg_name (i := 0) nd rfl (Or.inl rfl)) (pgs_cons (pg_name (i := 2) nd rfl (Or.inl rfl)) pgs_nil))))
          (pss_one (ps_expr (pe_bm PySem.F.plainAttrs_list PySem.F.slot_list_append PySem.F.type_list_append mt_append (pv 1) (pa_cons (pe_bm PySem.F.plainAttrs_str PySem.F.slot_str_zfill PySem.F.type_str_zfill mt_zfill (pe_callTy call_str_int (by rfl) T.str (by decide +kernel) (pa_cons (pv 2) pa_nil)) (pa_cons (pe_glob (v := .int 64) (by rfl) gC ⟨_, rfl⟩) pa_nil)) pa_nil))))))
      (pss_one (ps_ret (pe_join pe_str (pe_lst (pa_cons (pe_callTy call_str_int (by rfl) T.str (by decide +kernel) (pa_cons (pv 0) pa_nil)) (StX.pa_star (pe_revL (pv 1)) pa_nil))))))), ?_⟩
    refine ⟨by show 0 ≤ sizeLine; decide, fun p hp => ?_⟩
    have e1 := EvP.Ex.new (o := .lst []) hp
    refine ⟨fun μ s h => ∃ (m : Int) (ps : List Str) (o : Option V), μ = m.toNat ∧ s = [some (.int m), some (.ref p), o] ∧ 0 ≤ m ∧ EvP.Ex H h ∧ h p = some (.lst (ps.map V.str)) ∧ (∀ x ∈ ps, x.cps.toList.length = 64) ∧
      dl n.toNat = dl m.toNat ++ (ps.reverse.map fun x => x.cps.toList).flatten ∧ 64 * ps.length ≤ 10000, ⟨_, n, [], _, rfl, rfl, h0, e1, upd_same, fun x hx => (nomatch hx), (List.append_nil _).symm, Nat.zero_le _⟩, fun μ σ H' h => ?_⟩
    obtain ⟨m, ps, o, rfl, rfl, m0, eH, hps, l64, eq, few⟩ := h
    refine ⟨_, rfl, 10, 64, rfl, rfl, ⟨by decide, by decide, by decide⟩, _, _, rfl, rfl, _, rfl, ?_⟩
    refine ite2 (fun c => ?_) (fun c => ?_)
    · have c' : (10 : Int) ^ 64 ≤ m := of_decide_eq_true c
      have hm : ∃ M : Nat, m = M := ⟨m.toNat, by omega⟩
      obtain ⟨M, rfl⟩ := hm
      have cM : 10 ^ 64 ≤ M := by
        have : ((10 ^ 64 : Nat) : Int) ≤ (M : Int) := c'
        exact Int.ofNat_le.mp this
      have qp : 0 < M / 10 ^ 64 := Nat.div_pos cM (by decide)
      have rl : M % 10 ^ 64 < 10 ^ (63 + 1) := Nat.mod_lt _ (by decide)
      have dM : dl M = dl (M / 10 ^ 64) ++ pad 64 (M % 10 ^ 64) := by
        have := dl_pad 64 (M / 10 ^ 64) (M % 10 ^ 64) qp rl
        rw [← this, Nat.mul_comm, Nat.div_add_mod]
      have e10 : ((10 : Int) ^ (64 : Int).toNat) = ((10 ^ 64 : Nat) : Int) := by decide
      refine ⟨fun s' h' => ∃ (x : Str) (o' : Option V), s' = [some (.int ((M / 10 ^ 64 : Nat) : Int)), some (.ref p), o'] ∧ EvP.Ex H h' ∧ h' p = some (.lst ((ps ++ [x]).map V.str)) ∧ x.cps.toList = pad 64 (M % 10 ^ 64), fun s' h' ⟨x, o', a1, a2, a3, a4⟩ => ⟨(M / 10 ^ 64), ?_, _, ps ++ [x], o', ?_, a1, Int.natCast_nonneg _, a2, a3, ?_, ?_, ?_⟩, ?_⟩
      · show M / 10 ^ 64 < M
        exact Nat.div_lt_self (by omega) (by decide)
      · rfl
      · intro y hy
        rcases List.mem_append.mp hy with hy | hy
        · exact l64 y hy
        · rw [List.mem_singleton.mp hy, a4, pad_len]
      · rw [eq, List.reverse_append, List.map_append, List.flatten_append]
        show dl M ++ _ = dl (M / 10 ^ 64) ++ ((x.cps.toList ++ []) ++ _)
        rw [dM, List.append_nil, a4, List.append_assoc]
      · have hl := congrArg List.length eq
        have : ((ps.reverse.map fun x => x.cps.toList).flatten).length = 64 * ps.length := by
          rw [← sum_len]
          clear hps eq few hl a3
          have : ∀ l : List Str, (∀ x ∈ l, x.cps.toList.length = 64) → (l.map (·.length)).sum = 64 * l.length := fun l => by
            induction l with
            | nil => intro _; rfl
            | cons a r ih =>
              intro h
              rw [List.map_cons, List.sum_cons, ih fun x hx => h x (.tail _ hx), List.length_cons]
              have := h a (.head _)
              rw [len_cps] at this
              omega
          rw [this _ fun x hx => l64 x (List.mem_reverse.mp hx), List.length_reverse]
        rw [List.length_append, this, show (M : Int).toNat = M from rfl, dM, List.length_append, pad_len] at hl
        rw [List.length_append]
        show 64 * (ps.length + 1) ≤ 10000
        omega
      · refine ⟨_, rfl, 10, 64, rfl, rfl, ⟨by decide, by decide, by decide⟩, _, _, rfl, div_ok _, fun t ht => ?_⟩
        have pt : p ≠ t := ne_of_none hps ht
        refine ⟨t, _, rfl, SqT.of upd_same, rfl, _, _, rfl, _, _, rfl, rfl, ?_⟩
        rw [e10]
        have lm : M % 10 ^ 64 < 10 ^ (63 + 1) := rl
        have er : ((M : Int) % ((10 ^ 64 : Nat) : Int)) = ((M % 10 ^ 64 : Nat) : Int) := rfl
        rw [er]
        refine ⟨_, rfl, .inl ⟨rfl, _, SqL.of (by rw [upd_ne pt]; exact hps)⟩, _, rfl, _, rfl, log_small (Int.natCast_nonneg _) (by exact Int.ofNat_lt.mpr lm), rfl, _, _, rfl, rfl, rfl, p, _, _, rfl, rfl, by rw [upd_ne pt]; exact hps, ?_, ?_⟩
        · rw [List.length_map, sizeLine_eq]
          omega
        · refine ⟨_, _, rfl, fun b o hb => ?_, ?_, zfill_cps (k := 63) lm⟩
          · rw [upd_ne (ne_of_none hb hp), upd_ne (ne_of_none (eH _ _ hb) ht)]
            exact eH _ _ hb
          · rw [upd_same, List.map_append]
            rfl
    · have c' : ¬ (10 : Int) ^ 64 ≤ m := fun z => by
        have := decide_eq_true (p := (10 : Int) ^ (64 : Int).toNat ≤ m) z
        exact c this
      refine ⟨⟨_, rfl⟩, _, rfl, m, rfl, log_small m0 (by omega), _, rfl, p, _, rfl, SqL.of hps, fun r hr' => ?_⟩
      refine ⟨_, _, rfl, .inr (SqL.of upd_same), ?_, fun t ht => ?_⟩
      · simp only [List.length_cons, List.length_append, List.length_reverse, List.length_map, List.length_nil]
        rw [sizeLine_eq]
        omega
      have e2 := EvP.Ex.new (o := .lst (ps.map V.str).reverse) hr'
      have el : (V.str (Str.ofString (toString m)) :: ((ps.map V.str).reverse ++ [])) = (numT m :: ps.reverse).map V.str := by
        rw [List.append_nil, List.map_cons, List.map_reverse]
        rfl
      have tot : ((numT m :: ps.reverse).map fun x => x.cps.toList).flatten = dl n.toNat := by
        rw [eq, List.map_cons, List.flatten_cons, numT_cps m0]
      refine ⟨_, t, numT m :: ps.reverse, rfl, rfl, .inl (SqL.of (by rw [← el]; exact upd_same)), ?_, ?_⟩
      · rw [sum_len, tot]
        show _ + _ * 0 ≤ 16777216
        omega
      · have : Txt.join "" (numT m :: ps.reverse) = numT n := Dg.ext (by rw [flat_join, tot, numT_cps h0])
        rw [this]
        exact q _ ((eH.trans e2).trans (EvP.Ex.new ht))
end
end Fk

set_option Elab.async false
set_option linter.all false
set_option maxRecDepth 100000
set_option maxHeartbeats 4000000
/-! Comprehensions that only add objects. -/
namespace Cm
open PySem PySem.Spec PyProof.Rows L2 EvP
/-- an iterable whose items are xs, while objects are only added -/
def Walks (wi : TI) (σ : L2.St) (H : Hp) (xs : List V) : Prop := ∀ H1, Ex H H1 → ∀ R : It → Hp → Prop, (∀ J H2, Ex H1 H2 → (∃ G : Hp → Prop, Walk J xs.length G (YAt xs) ∧ ∀ H3, Ex H2 H3 → G H3) → R J H2) → wi σ H1 R
/-- a list, a tuple of just these -/
def lstV (xs : List V) : PR := ⟨fun v H => ∃ a, v = .ref a ∧ H a = some (.lst xs), fun _ _ _ e ⟨a, h1, h2⟩ => ⟨a, h1, e _ _ h2⟩⟩
def tupV (xs : List V) : PR := ⟨fun v H => ∃ a, v = .ref a ∧ H a = some (.tup xs), fun _ _ _ e ⟨a, h1, h2⟩ => ⟨a, h1, e _ _ h2⟩⟩
section
variable {K : PySem.W.Frag} {σ : L2.St} {H : Hp} {tl te : TE} {tt : TT} {xs : List V} {vs : List Nat} {i : Nat} {wi : TI}
theorem walks_list (h : Gives tl σ H (lstV xs)) : Walks (iList K tl) σ H xs := fun H1 e R r =>
  h H1 e _ fun v H2 e2 ⟨a, ev, ha⟩ => ⟨a, ev, ⟨xs, SqL.of ha⟩, r _ _ e2 ⟨_, walk_list, fun H3 e3 => SqL.of (e3 _ _ ha)⟩⟩
theorem walks_tup (h : Gives tl σ H (tupV xs)) : Walks (iTup K tl) σ H xs := fun H1 e R r =>
  h H1 e _ fun v H2 e2 ⟨a, ev, ha⟩ => ⟨a, ev, ⟨xs, SqT.of ha⟩, r _ _ e2 ⟨_, walk_tup, fun H3 e3 => SqT.of (e3 _ _ ha)⟩⟩
theorem all2_snoc {H : Hp} : ∀ {Ps : List PR} {vs : List V} {P : PR} {v : V}, All2 H Ps vs → P.R v H → All2 H (Ps ++ [P]) (vs ++ [v])
  | _, _, _, _, .nil, h => .cons h .nil
  | _, _, _, _, .cons a t, h => .cons a (all2_snoc t h)
/-- what a list that grows does not touch -/
def Stays (P : PR) : Prop := ∀ v H D ys zs, P.R v H → H D = some (.lst ys) → P.R v (upd H D (.lst zs))
theorem all2_stays {H : Hp} {D : Addr} {ys zs : List V} (hD : H D = some (.lst ys)) : ∀ {Ps : List PR} {vs : List V}, (∀ P ∈ Ps, Stays P) → All2 H Ps vs → All2 (upd H D (.lst zs)) Ps vs
  | _, _, _, .nil => .nil
  | _, _, s, .cons a t => .cons (s _ (.head _) _ _ _ _ _ a hD) (all2_stays hD (fun P hP => s P (.tail _ hP)) t)
theorem stays_is (v : V) : Stays (is v) := fun _ _ _ _ _ h _ => h
theorem stays_tupV (ys : List V) : Stays (tupV ys) := fun v H D l1 l2 ⟨a, h1, h2⟩ hD => ⟨a, h1, by
  rw [upd_ne (ne_of h2 hD (fun z => nomatch z))]
  exact h2⟩
/-- [e for x in xs if t] -/
theorem comp (keep : V → Bool) (φ : V → PR) (hw : Walks wi σ H xs) (hz : xs.length ≤ 1000) (wp : ∀ x, wipe ((wipe σ vs).set i (some x)) vs = wipe σ vs)
    (ht : ∀ x ∈ xs, ∀ H1, Ex H H1 → ∀ Q : Bool → Hp → Prop, Q (keep x) H1 → tt ((wipe σ vs).set i (some x)) H1 Q) (he : ∀ x ∈ xs, keep x = true → Gives te ((wipe σ vs).set i (some x)) H (φ x)) (st : ∀ x ∈ xs, Stays (φ x)) :
    Gives (tLc wi (gName i) tt te vs) σ H (lst H ((xs.filter keep).map φ)) := fun H1 e1 Q q => by
  refine hw H1 e1 _ fun J H2 e2 ⟨G, w, g⟩ D hD => ?_
  have mem : ∀ (j : Nat) (P : PR), P ∈ ((xs.take j).filter keep).map φ → Stays P := fun j P hP => by
    obtain ⟨x, hx, rfl⟩ := List.mem_map.mp hP
    exact st x (List.mem_of_mem_take (List.mem_filter.mp hx).1)
  have len : ∀ j, (((xs.take j).filter keep).map φ).length ≤ 1000 := fun j => by
    rw [List.length_map]
    exact Nat.le_trans (List.length_filter_le _ _) (by rw [List.length_take]; omega)
  refine lc_it w (fun j H' => ∃ acc, H' D = some (.lst acc) ∧ Ex H2 H' ∧ All2 H' (((xs.take j).filter keep).map φ) acc) ⟨[], upd_same, Ex.new hD, .nil⟩ (fun j H' _ ⟨_, _, e3, _⟩ => g _ e3) (fun j x H' H'' hj ⟨acc, a1, a2, a3⟩ y => ?_) (fun H' ⟨acc, a1, a2, a3⟩ => ?_)
  · obtain ⟨rfl, hx⟩ := y
    have mx := List.mem_of_getElem? hx
    have eH := (e1.trans e2).trans a2
    have tk : xs.take (j + 1) = xs.take j ++ [x] := by
      rw [List.take_add_one, hx]
      rfl
    refine ⟨wp x, ht x mx _ eH _ ?_⟩
    cases kx : keep x with
    | false =>
      refine ⟨acc, a1, a2, ?_⟩
      rw [tk, List.filter_append, List.filter_cons, kx]
      simpa using a3
    | true =>
      refine he x mx kx _ eH _ fun v H4 e4 hv => ⟨acc, e4 _ _ a1, ?_, acc ++ [v], upd_same, fun b o hb => ?_, ?_⟩
      · have := a3.length
        have := len j
        rw [sizeLine_eq]
        omega
      · rw [upd_ne (ne_of_none hb hD)]
        exact e4 _ _ (a2 _ _ hb)
      · rw [tk, List.filter_append, List.filter_cons, kx, List.map_append]
        refine all2_stays (e4 _ _ a1) (fun P hP => ?_) (all2_snoc (a3.ex e4) hv)
        rcases List.mem_append.mp hP with hP | hP
        · exact mem j P hP
        · rw [List.mem_singleton.mp hP]
          exact st x mx
  · rw [List.take_length] at a3
    exact q _ _ (e2.trans a2) ⟨D, acc, rfl, a1, (e1.trans e2).back hD, a3⟩
theorem all2_is : ∀ {H : Hp} {ws vs : List V}, All2 H (ws.map is) vs → vs = ws
  | _, [], _, .nil => rfl
  | _, w :: ws, _, .cons a t => by rw [show _ = w from a, all2_is t]
/-- .. of values that are told -/
theorem comp_is (keep : V → Bool) (f : V → V) (hw : Walks wi σ H xs) (hz : xs.length ≤ 1000) (wp : ∀ x, wipe ((wipe σ vs).set i (some x)) vs = wipe σ vs)
    (ht : ∀ x ∈ xs, ∀ H1, Ex H H1 → ∀ Q : Bool → Hp → Prop, Q (keep x) H1 → tt ((wipe σ vs).set i (some x)) H1 Q) (he : ∀ x ∈ xs, keep x = true → Gives te ((wipe σ vs).set i (some x)) H (is (f x))) :
    Gives (tLc wi (gName i) tt te vs) σ H (lstV ((xs.filter keep).map f)) := fun H1 e1 Q q =>
  comp keep (fun x => is (f x)) hw hz wp ht he (fun _ _ => stays_is _) H1 e1 Q fun v H2 e2 ⟨a, ws, ev, ha, _, hs⟩ => q v H2 e2 ⟨a, ev, by
    have h2 : All2 H2 ((List.map f (xs.filter keep)).map is) ws := by
      rw [List.map_map]
      exact hs
    rw [← all2_is h2]
    exact ha⟩
/-- [e for k in d], d locked meanwhile -/
theorem comp_keys {m : Nat} {d : Addr} {kvs : List (Key × V)} (f : Key → V) (hd : σ[m]? = some (some (.ref d))) (at_ : H d = some (.dK kvs)) (hz : kvs.length ≤ 1000) (wp : ∀ x, wipe ((wipe σ vs).set i (some x)) vs = wipe σ vs)
    (he : ∀ x ∈ kvs, ∀ H1 (Q : VK), Q (f x.1) H1 → te ((wipe σ vs).set i (some (kV x.1))) H1 Q) :
    Gives (tLockE (tLc (iKeys (tVar m)) (gName i) tYes te vs)) σ H (lstV (kvs.map fun x => f x.1)) := fun H1 e1 Q q => by
  have h1 := e1 _ _ at_
  refine ⟨d, _, h1, True.intro, fun od => ⟨_, hd, d, od, rfl, .inl ⟨kvs, upd_same, fun D hD => ?_⟩⟩⟩
  have nd : d ≠ D := fun z => by
    rw [← z, upd_same] at hD
    cases hD
  have nD : H1 D = none := by rw [upd_ne nd.symm] at hD; exact hD
  refine lc_it walk_keys (fun j H' => H' = upd (upd H1 d (.frz od (.dK kvs))) D (.lst ((kvs.take j).map fun x => f x.1))) (by rw [List.take_zero]; rfl) (fun j H' _ e => by rw [e, upd_ne nd, upd_same]) (fun j x H' H'' hj e y => ?_) (fun H' e => ?_)
  · obtain ⟨rfl, k, v, hk, rfl⟩ := y
    refine ⟨wp _, he (k, v) (List.mem_of_getElem? hk) _ _ ⟨_, by rw [e]; exact upd_same, ?_, ?_⟩⟩
    · rw [List.length_map, List.length_take, sizeLine_eq]
      omega
    · rw [e, List.take_add_one, hk, List.map_append]
      funext b
      by_cases hb : b = D
      · rw [hb, upd_same, upd_same]
        rfl
      · rw [upd_ne hb, upd_ne hb, upd_ne hb]
  · refine ⟨by rw [e, upd_ne nd, upd_same], q _ _ (fun b o hb => ?_) ⟨D, rfl, ?_⟩⟩
    · rw [e]
      by_cases h : b = d
      · rw [h, upd_same, ← h1, ← h]
        exact hb
      · rw [upd_ne h, upd_ne (ne_of_none hb nD), upd_ne h]
        exact hb
    · rw [upd_ne nd.symm, e, upd_same, List.take_length]
end
end Cm

set_option Elab.async false
set_option linter.all false
set_option maxRecDepth 100000
set_option maxHeartbeats 4000000
/-! Names in their order; what a side tells. -/
namespace Fk
open PySem PySem.Spec PyProof.Rows L2 EvP
def leS (a b : Str) : Prop := a.cps.toList ≤ b.cps.toList
theorem leS_trans {a b c : Str} (h : leS a b) (k : leS b c) : leS a c := List.le_trans h k
theorem leS_anti {a b : Str} (h : leS a b) (k : leS b a) : a = b := by
  have := List.le_antisymm h k
  cases a
  cases b
  exact congrArg Str.mk (Array.toList_inj.mp this)
theorem leS_total (a b : Str) : leS a b ∨ leS b a := List.le_total _ _
theorem rising_pairwise : ∀ (l : List Str) (p : Str), risingS p l = true → (p :: l).Pairwise leS
  | [], _, _ => List.pairwise_singleton _ _
  | x :: r, p, h => by
    obtain ⟨h1, h2⟩ := Bool.and_eq_true_iff.mp (show (!ltCps x.cps.toList p.cps.toList && risingS x r) = true from h)
    have h3 : leS p x := by
      rw [ltCps_eq] at h1
      exact List.not_lt.mp (by simpa using h1)
    have ih := rising_pairwise r x h2
    refine List.pairwise_cons.mpr ⟨fun y hy => ?_, ih⟩
    rcases List.mem_cons.mp hy with rfl | hy
    · exact h3
    · exact leS_trans h3 ((List.pairwise_cons.mp ih).1 y hy)
theorem sorted_pairwise : ∀ {l : List Str}, sortedS l = true → l.Pairwise leS
  | [], _ => List.Pairwise.nil
  | x :: r, h => rising_pairwise r x h
/-- names in their order -/
def srt (xs : List Str) : List Str := xs.mergeSort fun a b => decide (a.cps.toList ≤ b.cps.toList)
theorem srt_pairwise (xs : List Str) : (srt xs).Pairwise leS := by
  have := List.pairwise_mergeSort (le := fun a b : Str => decide (a.cps.toList ≤ b.cps.toList)) (fun a b c h k => decide_eq_true (List.le_trans (of_decide_eq_true h) (of_decide_eq_true k)))
    (fun a b => by
      rcases leS_total a b with h | h
      · rw [decide_eq_true (show a.cps.toList ≤ b.cps.toList from h)]
        rfl
      · rw [decide_eq_true (show b.cps.toList ≤ a.cps.toList from h), Bool.or_true]) xs
  exact this.imp fun h => of_decide_eq_true h
theorem srt_perm (xs : List Str) : (srt xs).Perm xs := List.mergeSort_perm xs _
theorem srt_of {xs ys : List Str} (p : ys.Perm xs) (h : sortedS ys = true) : ys = srt xs :=
  List.Perm.eq_of_pairwise (le := leS) (fun _ _ _ _ h k => leS_anti h k) (sorted_pairwise h) (srt_pairwise xs) (p.trans (srt_perm xs).symm)
theorem srt_eq {xs ys : List Str} (p : ys.Perm xs) : srt ys = srt xs :=
  List.Perm.eq_of_pairwise (le := leS) (fun _ _ _ _ h k => leS_anti h k) (srt_pairwise ys) (srt_pairwise xs) ((srt_perm ys).trans (p.trans (srt_perm xs).symm))
/-- names with amounts -/
abbrev Row := List (Str × Int)
def amt (kvs : Row) (n : Str) : Int := (kvs.lookup n).getD 0
/-- all names in their order, each with its amount -/
def asc (kvs : Row) : Row := (srt (kvs.map (·.1))).map fun n => (n, amt kvs n)
/-- those above 0 -/
def told (kvs : Row) : Row := (asc kvs).filter fun t => decide (0 < t.2)
/-- as entries of a dict -/
def ents (kvs : Row) : List (Key × V) := kvs.map fun t => ((Sum.inr t.1 : Key), V.int t.2)
theorem valV_ents : ∀ (kvs : Row) (n : Str), valV (ents kvs) (Sum.inr n) = (kvs.lookup n).map V.int
  | [], _ => rfl
  | t :: r, n => by
    by_cases h : t.1 = n
    · rw [show ents (t :: r) = ((Sum.inr t.1 : Key), V.int t.2) :: ents r from rfl, valV_pos (by rw [h]), show ((t :: r).lookup n) = some t.2 by
        obtain ⟨a, b⟩ := t
        simp only at h
        subst h
        simp [List.lookup]]
      rfl
    · rw [show ents (t :: r) = ((Sum.inr t.1 : Key), V.int t.2) :: ents r from rfl, valV_neg (fun z => h (Sum.inr.inj z)), valV_ents r n, show ((t :: r).lookup n) = r.lookup n by
        obtain ⟨a, b⟩ := t
        have : (n == a) = false := beq_eq_false_iff_ne.mpr fun z => h z.symm
        simp [List.lookup, this]]
theorem lookup_mem : ∀ {kvs : Row} {n : Str}, n ∈ kvs.map (·.1) → ∃ a, kvs.lookup n = some a ∧ (n, a) ∈ kvs
  | (m, b) :: r, n, h => by
    by_cases e : n = m
    · subst e
      exact ⟨b, by simp [List.lookup], .head _⟩
    · rcases List.mem_cons.mp h with h | h
      · exact absurd h e
      · obtain ⟨a, h1, h2⟩ := lookup_mem h
        have : (n == m) = false := beq_eq_false_iff_ne.mpr e
        exact ⟨a, by simp [List.lookup, this, h1], .tail _ h2⟩
theorem amt_of {kvs : Row} {n : Str} (h : n ∈ kvs.map (·.1)) : kvs.lookup n = some (amt kvs n) ∧ (n, amt kvs n) ∈ kvs := by
  obtain ⟨a, h1, h2⟩ := lookup_mem h
  unfold amt
  rw [h1]
  exact ⟨rfl, h2⟩
theorem mem_srt {xs : List Str} {n : Str} : n ∈ srt xs ↔ n ∈ xs := (srt_perm xs).mem_iff
def meth (j : Nat) : Stmt := match top 34 with
  | .ClassDef _ _ _ body _ _ _ _ _ _ _ => body.getD j (.Pass ⟨0, 0, 0, 0⟩)
  | _ => .Pass ⟨0, 0, 0, 0⟩
abbrev sInit : Stmt := meth 0
end Fk

set_option Elab.async false
set_option linter.all false
set_option maxRecDepth 100000
set_option maxHeartbeats 4000000
/-! What calls and signs give, by values. -/
namespace Cm
open PySem PySem.Spec PyProof.Rows L2 EvP
def dictV (kvs : List (Key × V)) : PR := ⟨fun v H => ∃ a, v = .ref a ∧ H a = some (.dK kvs), fun _ _ _ e ⟨a, h1, h2⟩ => ⟨a, h1, e _ _ h2⟩⟩
/-- the same, new over H0 -/
def dictN (H0 : Hp) (kvs : List (Key × V)) : PR := ⟨fun v H => ∃ a, v = .ref a ∧ H a = some (.dK kvs) ∧ H0 a = none, fun _ _ _ e ⟨a, h1, h2, h3⟩ => ⟨a, h1, e _ _ h2, h3⟩⟩
section
variable {K : PySem.W.Frag} {σ : L2.St} {H : Hp} {te tl tv : TE} {xs : List V} {i j : Nat} {vs : List Nat}
theorem g_sorted {ss : List Str} (h : Gives te σ H (lstV (ss.map V.str))) (hz : ss.length < 64) : Gives (tCB (rSortedS K) (tCons te tNil)) σ H (lstV ((Fk.srt ss).map V.str)) := fun H1 e Q q =>
  h H1 e _ fun v H2 e2 ⟨a, ev, ha⟩ => ⟨a, ss, by rw [ev], SqL.of ha, hz, fun ys p pm so hp => by
    rw [Fk.srt_of pm so]
    exact q _ _ (e2.trans (Ex.new hp)) ⟨p, rfl, upd_same⟩⟩
theorem g_sum {ns : List Int} (h : Gives te σ H (lstV (ns.map V.int))) : Gives (tCB (rSum K) (tCons te tNil)) σ H (is (.int ns.sum)) := fun H1 e Q q =>
  h H1 e _ fun v H2 e2 ⟨a, ev, ha⟩ => ⟨a, ns, by rw [ev], SqL.of ha, q _ _ e2 rfl⟩
theorem g_tupV (h : Gives te σ H (lstV xs)) : Gives (tThen te (kTup K)) σ H (tupV xs) := fun H1 e Q q =>
  h H1 e _ fun v H2 e2 ⟨a, ev, ha⟩ => .inl ⟨a, xs, ev, SqL.of ha, fun p hp => q _ _ (e2.trans (Ex.new hp)) ⟨p, rfl, upd_same⟩⟩
theorem g_tup {H0 : Hp} {Ps : List PR} (h : Gives te σ H (lst H0 Ps)) : Gives (tThen te (kTup K)) σ H (tup Ps) := fun H1 e Q q =>
  h H1 e _ fun v H2 e2 ⟨a, ws, ev, ha, _, hs⟩ => .inl ⟨a, ws, ev, SqL.of ha, fun p hp => q _ _ (e2.trans (Ex.new hp)) ⟨p, ws, rfl, upd_same, hs.ex (Ex.new hp)⟩⟩
/-- d[k], d in slot i, k in slot j -/
theorem g_get {d : Addr} {kvs : List (Key × V)} {k : Key} {v : V} (hi : σ[i]? = some (some (.ref d))) (hj : σ[j]? = some (some (kV k))) (hd : H d = some (.dK kvs)) (hv : valV kvs k = some v) : Gives (tDGet (tVar i) (tVar j)) σ H (is v) := fun H1 e Q q =>
  ⟨_, hi, _, hj, d, v, rfl, by rw [← hv]; exact DGet.k (e _ _ hd), q _ _ (Ex.refl H1) rfl⟩
/-- x > n -/
theorem t_gt {a b : TE} {x y : Int} (h : Gives a σ H (is (.int x))) (k : Gives b σ H (is (.int y))) : ∀ H1, Ex H H1 → ∀ Q : Bool → Hp → Prop, (∀ H2, Ex H1 H2 → Q (decide (y < x)) H2) → tTest (tOp (rI0 fun i j => .bl (decide (j < i))) a b) σ H1 Q := fun H1 e Q q =>
  h H1 e _ fun v H2 e2 ev => k H2 (e.trans e2) _ fun u H3 e3 eu => ⟨x, y, ev, eu, _, rfl, q _ (e2.trans e3)⟩
/-- {n: e for n in names} over a tuple of names -/
theorem comp_dict {ss : List Str} (f : Str → V) (h : Gives tl σ H (tupV (ss.map V.str))) (hz : ss.length ≤ 1000) (nod : ss.Nodup) (hi : i < σ.length) (wp : ∀ x, wipe ((wipe σ vs).set i (some x)) vs = wipe σ vs)
    (he : ∀ n ∈ ss, Gives tv ((wipe σ vs).set i (some (.str n))) H (is (f n))) : Gives (tDc (iTup K tl) (gName i) tYes (tVar i) tv vs) σ H (dictN H (ss.map fun n => ((Sum.inr n : Key), f n))) := fun H1 e1 Q q => by
  refine h H1 e1 _ fun v H2 e2 ⟨a, ev, ha⟩ => ⟨a, ev, ⟨_, SqT.of ha⟩, fun D hD => ?_⟩
  refine dc_tup (xs := ss.map V.str) (fun j H' => H' D = some (.dK ((ss.take j).map fun n => ((Sum.inr n : Key), f n))) ∧ Ex H2 H') ⟨by rw [List.take_zero]; exact upd_same, Ex.new hD⟩ (fun j H' _ ⟨_, e3⟩ => SqT.of (e3 _ _ ha)) (fun j x H' hx ⟨a1, a2⟩ => ?_) (fun H' ⟨a1, a2⟩ => ?_)
  · rw [List.getElem?_map] at hx
    obtain ⟨n, hn, rfl⟩ := Option.map_eq_some_iff.mp hx
    have eH := (e1.trans e2).trans a2
    have lw : (wipe σ vs).length = σ.length := wipe_length σ vs
    refine ⟨wp _, .str n, by rw [List.getElem?_set_self (by rw [lw]; exact hi)], he n (List.mem_of_getElem? hn) _ eH _ fun v H4 e4 hv => ⟨_, Sum.inr n, rfl, e4 _ _ a1, ?_, ?_, fun b o hb => ?_⟩⟩
    · rw [List.length_map, List.length_take, sizeLine_eq]
      omega
    · have new : valV ((ss.take j).map fun n => ((Sum.inr n : Key), f n)) (Sum.inr n) = none := by
        have no : ¬ (((ss.take j).map fun n => ((Sum.inr n : Key), f n)).any fun kv => decide (kv.1 = Sum.inr n)) = true := by
          intro y
          obtain ⟨p, hp, ep⟩ := List.any_eq_true.mp y
          obtain ⟨m, hm, rfl⟩ := List.mem_map.mp hp
          have e : m = n := Sum.inr.inj (of_decide_eq_true ep)
          rw [e] at hm
          obtain ⟨t, ht, et⟩ := List.getElem_of_mem hm
          rw [List.getElem_take] at et
          have lt : t < j := by
            rw [List.length_take] at ht
            omega
          obtain ⟨jl, ej⟩ := List.getElem?_eq_some_iff.mp hn
          exact List.pairwise_iff_getElem.mp nod t j (by rw [List.length_take] at ht; omega) jl lt (et.trans ej.symm)
        rw [valV_any] at no
        simpa using no
      rw [upd_same, putK_new _ new, List.take_add_one, hn, List.map_append, show v = f n from hv]
      rfl
    · rw [upd_ne (ne_of_none hb hD)]
      exact e4 _ _ (a2 _ _ hb)
  · rw [List.length_map, List.take_length] at a1
    exact q _ _ (e2.trans a2) ⟨D, rfl, a1, (e1.trans e2).back hD⟩
end
end Cm

set_option Elab.async false
set_option linter.all false
set_option maxRecDepth 100000
set_option maxHeartbeats 4000000
/-! The dict that a parameter **d gets: new, filled by names. -/
namespace Mrg
open PySem PySem.Spec PyProof.Rows PySem.W L2
section
variable {prog : Program} {w : World} {A : Around} {E : Value → Shared → Prop}
def byName (es : List DictEntry) : Prop := ∀ e ∈ es, e.refKey = false
def lacks (es : List DictEntry) (k : Str) : Prop := ∀ e ∈ es, e.key.isStr k = false
theorem set_at {s : Shared} {d : Addr} {es : List DictEntry} {n : Nat} {k : Str} {v : Value} {Q : Unit → Shared → Prop} (at_ : s.heap.get? d = some (dictOf es n)) (l : lacks es k) (b : byName es)
    (q : ∀ h1 : Heap, h1.get? d = some (dictOf (es ++ [⟨PyData.keyHash w.params k, .str k s.toks, v⟩]) (n + 1)) → Heap.SameBut d s.heap h1 → Q () { s with heap := h1, toks := s.toks + 1 }) :
    wpAny (model prog w) A (nsSet d k v) Q E s := by
  have n1 : es.any (fun x => x.key.isStr k) = false := List.any_eq_false.mpr fun x hx => by
    rw [l x hx]
    exact Bool.false_ne_true
  have n2 : es.any (fun x => x.refKey) = false := List.any_eq_false.mpr fun x hx => by
    rw [b x hx]
    exact Bool.false_ne_true
  have no : aRefKeyMayBeTheName k es.toArray = false := by
    rw [aRefKeyMayBeTheName_at, ← Array.any_toList, ← Array.any_toList]
    exact (congrArg (fun z => !es.any (fun x => x.key.isStr k) && z) n2).trans (Bool.and_false _)
  have pn : Obj.putName k (PyData.keyHash w.params k) (.str k s.toks) v (dictOf es n) = dictOf (es ++ [⟨PyData.keyHash w.params k, .str k s.toks, v⟩]) (n + 1) := by
    rw [putName_dict, putL_new l]
    unfold putN
    rw [n1]
    rfl
  unfold nsSet
  refine wpAny_bind (wpAny_bind (wpAny_askSetting (wpAny_pure (wpAny_bind (wpAny_mkText (wpAny_bind (wpAny_loadPart at_ ?_)))))))
  dsimp only
  rw [no]
  refine wpAny_updatePart at_ (q _ ?_ (Heap.SameBut.update ..))
  have fr : (Obj.putName k (PyData.keyHash w.params k) (.str k s.toks) v (dictOf es n)).isFreed = false := by
    rw [pn]
    rfl
  rw [← pn]
  exact Heap.get?_update_self _ at_ fr
theorem fill_at {d : Addr} {Q : PUnit → Shared → Prop} : ∀ (ex : List (Str × Value)) (s : Shared) (es : List DictEntry) (n : Nat), s.heap.get? d = some (dictOf es n) → (∀ x ∈ ex, lacks es x.1) → byName es → (ex.map (·.1)).Nodup →
    (∀ h1 : Heap, h1.get? d = some (dictOf (es ++ kwEs w.params s.toks ex) (n + ex.length)) → Heap.SameBut d s.heap h1 → Q ⟨⟩ { s with heap := h1, toks := s.toks + ex.length }) →
    wpAny (model prog w) A (forIn ex PUnit.unit fun x _ => (nsSet d x.1 x.2 >>= fun _ => pure (ForInStep.yield PUnit.unit))) Q E s := by
  intro ex
  induction ex with
  | nil =>
    intro s es n at_ _ _ _ q
    rw [List.forIn_nil]
    refine wpAny_pure (q s.heap ?_ (Heap.SameBut.refl _ _))
    rw [show es ++ kwEs w.params s.toks [] = es from List.append_nil _]
    exact at_
  | cons x r ih =>
    intro s es n at_ l b nod q
    obtain ⟨nx, nr⟩ := List.nodup_cons.mp nod
    rw [List.forIn_cons]
    refine wpAny_bind (wpAny_bind (set_at at_ (l x (.head _)) b fun h1 a1 sb => wpAny_pure ?_))
    refine ih _ _ _ a1 (fun y hy e he => ?_) (fun e he => ?_) nr fun h2 a2 sb2 => ?_
    · rcases List.mem_append.mp he with he | he
      · exact l y (.tail _ hy) e he
      · cases List.mem_singleton.mp he
        refine beq_eq_false_iff_ne.mpr fun z => nx ?_
        show x.1 ∈ _
        rw [show x.1 = y.1 from z]
        exact List.mem_map_of_mem hy
    · rcases List.mem_append.mp he with he | he
      · exact b e he
      · cases List.mem_singleton.mp he
        rfl
    · have z := q h2 (by
        rw [List.append_assoc] at a2
        rw [show n + (x :: r).length = n + 1 + r.length by rw [List.length_cons]; omega]
        exact a2) (sb.trans sb2)
      rw [show s.toks + (x :: r).length = s.toks + 1 + r.length by rw [List.length_cons]; omega] at z
      exact z
theorem names_mix : ∀ (ex : List (Str × Value)) (t : Tok), Pairs (mixKind prog w) (kwEs w.params t ex) (ex.map fun x => ((Sum.inr x.1 : Key), x.2))
  | [], _ => .nil
  | x :: r, t => .cons (kV_is (k := Sum.inr x.1) ⟨t, rfl⟩) rfl (names_mix r (t + 1))
theorem names_dict {h : Heap} {d : Addr} {ex : List (Str × Value)} {t : Tok} {n : Nat} (at_ : h.get? d = some (dictOf (kwEs w.params t ex) n)) (nod : (ex.map (·.1)).Nodup) : h.DictOf (mixKind prog w) d (ex.map fun x => ((Sum.inr x.1 : Key), x.2)) := by
  refine ⟨_, (kwEs w.params t ex).toArray, n, at_, ⟨rfl, rfl, rfl⟩, rfl, fun e he => ?_, names_mix ex t, ?_⟩
  · obtain ⟨k, u, e1, e2⟩ := kwEs_key ex t e (List.mem_toArray.mp he)
    exact ⟨Sum.inr k, by rw [e1]; exact kV_is (k := Sum.inr k) ⟨u, rfl⟩, e2⟩
  · rw [List.map_map]
    have : ((fun x : Key × Value => x.1) ∘ fun x : Str × Value => ((Sum.inr x.1 : Key), x.2)) = (fun k : Str => (Sum.inr k : Key)) ∘ fun x => x.1 := rfl
    rw [this, ← List.map_map]
    exact List.Pairwise.map _ (fun a b ne e => ne (Sum.inr.inj e)) nod
end
end Mrg

set_option Elab.async false
set_option linter.all false
set_option maxRecDepth 100000
set_option maxHeartbeats 4000000
/-! How a def(self, **d) binds. -/
namespace Mrg
open PySem PySem.Spec PyProof.Rows PySem.W L2
section
variable {prog : Program} {w : World} {A : Around} {E : Value → Shared → Prop}
theorem forIn_yields {α β : Type} {f : α → β → Sem (ForInStep β)} {g : β → α → β} : ∀ (l : List α) (b : β), (∀ y ∈ l, ∀ b, f y b = pure (.yield (g b y))) → forIn l b f = (pure (l.foldl g b) : Sem β)
  | [], b, _ => List.forIn_nil ..
  | x :: r, b, h => by
    rw [List.forIn_cons, h x (.head _), pure_bind]
    exact forIn_yields r (g b x) fun y hy => h y (.tail _ hy)
theorem fold_ends {α : Type} (a : α) : ∀ (kw acc : List (Str × Value)), kw.foldl (fun (s : α × List (Str × Value)) y => (s.1, s.2 ++ [(y.1, y.2)])) (a, acc) = (a, acc ++ kw)
  | [], acc => by rw [List.append_nil]; rfl
  | x :: r, acc => by
    rw [List.foldl_cons, fold_ends a r]
    show (a, acc ++ [(x.1, x.2)] ++ r) = _
    rw [List.append_assoc]
    rfl
theorem bind_kw (qual : Str) (params : Arguments) (body : List Stmt) (scope : Scope) (kV doc pm : Value) (an : Option Addr) (cdv ct : Value) (nm : Str) (p1 pd : Str) (q1 q2 : Pos) (a1 a2 : Option Expr) (kd : List (Option Expr)) (df : List Expr)
   (hp : params = { posonlyargs := [], args := [⟨p1, a1, q1⟩], vararg := none, kwonlyargs := [], kw_defaults := kd, kwarg := some ⟨pd, a2, q2⟩, defaults := df })
   (x : Value) (kw : List (Str × Value)) (hk : ∀ y ∈ kw, y.1 ≠ p1) (hz : kw.length ≤ sizeLine) :
   bindArgs (fnOf nm qual params body scope .none kV doc pm an cdv ct) ⟨[x], kw⟩ = 
     ((alloc ({ cls := .type "dict", data := .dict #[] } : Obj) : Sem Addr) >>= fun d => forIn kw PUnit.unit (fun y _ => (nsSet d y.1 y.2 >>= fun _ => pure (ForInStep.yield PUnit.unit))) >>= fun _ => pure [(p1, x), (pd, Value.ref d)]) := by
  subst hp
  unfold bindArgs
  simp only [fnOf, List.map_cons, List.map_nil, List.nil_append, List.zip_cons_cons, List.zip_nil_right, List.length_cons, List.length_nil]
  rw [forIn_yields (g := fun s y => (s.1, s.2 ++ [(y.1, y.2)])) kw _ (fun y hy b => by
    have e : ([p1].contains y.1 || ([] : List Str).contains y.1) = false := by simpa using hk y hy
    rw [if_neg (by rw [e]; exact Bool.false_ne_true)]
    rfl), fold_ends, List.nil_append, pure_bind]
  simp [List.lookup, seqItems?, hz]
  rw [show notAStandIn Value.none = pure () from rfl, pure_bind, if_neg (by omega)]
end
end Mrg

set_option Elab.async false
set_option linter.all false
set_option maxRecDepth 100000
set_option maxHeartbeats 4000000
/-! A def(self, **d), called by keywords. -/
namespace Mrg
open PySem PySem.Spec PyProof.Rows PySem.W L2
section
variable {P : Program} {w : World} {K : PySem.W.Frag} {mg : Str → Option Value} {base : Heap} {A : Around} {outer : List Env} {s : Shared} {H : Hp}
/-- one object more, at the end of the heap -/
theorem env0_more {h1 : Heap} {t : Tok} {u : HO} (e0 : Env0 P w K mg base A outer s H) (kp : ∀ b x, s.heap.get? b = some x → h1.get? b = some x) (le : s.heap.objs.size ≤ h1.objs.size)
    (new : ObjOk P w (upd H s.heap.objs.size u) h1 s.heap.objs.size u) : Env0 P w K mg base A outer { s with heap := h1, toks := t } (upd H s.heap.objs.size u) where
  frames := e0.frames
  mod := e0.mod
  bs := fun b x e => ⟨kp b x (e0.bs b x e).1, by
    rw [upd_ne (Nat.ne_of_lt (Heap.lt_size (e0.bs b x e).1))]
    exact (e0.bs b x e).2⟩
  bsz := Nat.le_trans e0.bsz le
  funs := Heap.FunFrames.of_keeps (fun b x e _ => ⟨x, kp b x e, rfl⟩) e0.funs
  frf := fun b hb => by
    obtain ⟨_, x, hx, _⟩ := e0.funs.mem hb
    rw [upd_ne (Nat.ne_of_lt (Heap.lt_size hx))]
    exact e0.frf b hb
  hok := e0.hok.laid kp (Nat.le_refl _) new
  bare := e0.bare
/-- the entries by name -/
def nms (kvs : List (Str × V)) : List (Key × V) := kvs.map fun y => (Sum.inr y.1, y.2)
/-- the def at f, called with one value and keywords, keeps sp of the value and a new dict -/
def KwOk (P : Program) (w : World) (K : PySem.W.Frag) (mg : Str → Option Value) (base : Heap) (CX : CXT) (k : Nat) (f : Addr) (p1 : Str) (sp : Sp) : Prop :=
  ∀ (A : Around) (outer : List Env) (s : Shared) (H : Hp) (x : V) (u : Value) (kvs : List (Str × V)) (ws : List Value) (Q : VK) (E : XK), Room k A → Env0 P w K mg base A outer s H → RelV x u → Vals (kvs.map (·.2)) ws → (kvs.map (·.1)).Nodup →
    (∀ y ∈ kvs, y.1 ≠ p1) → kvs.length ≤ sizeLine → (∀ d, H d = none → d ≠ sysModules → sp [x, .ref d] (upd H d (.dK (nms kvs))) Q E) → codeAny (model P w) A (.call (.ref f) ⟨[u], (kvs.map (·.1)).zip ws⟩) (CR CX outer P w H s Q E) s
theorem kv_rel : ∀ {kvs : List (Str × V)} {ws : List Value}, Vals (kvs.map (·.2)) ws → KV (nms kvs) (((kvs.map (·.1)).zip ws).map fun x => ((Sum.inr x.1 : Key), x.2))
  | [], _, .nil => .nil
  | _ :: _, _, .cons r t => .cons ⟨rfl, r⟩ (kv_rel t)
theorem zip_fst : ∀ {kvs : List (Str × V)} {ws : List Value}, Vals (kvs.map (·.2)) ws → (((kvs.map (·.1)).zip ws).map (·.1)) = kvs.map (·.1)
  | [], _, .nil => rfl
  | _ :: _, _, .cons _ t => congrArg (List.cons _) (zip_fst t)
theorem fn_kw {CX : CXT} {k : Nat} {f : Addr} {nm qual : Str} {st : Stmt} {fd : FuncData} {N : List Str} {p1 pd : Str} {sp : Sp} (F : Fun K nm qual st f fd) (S : FnScope N [p1, pd] (defScope st)) (hCX : StX.CXUp CX)
    (hp : ∃ (q1 q2 : Pos) (a1 a2 : Option Expr) (kd : List (Option Expr)) (df : List Expr), defArgs st = { posonlyargs := [], args := [⟨p1, a1, q1⟩], vararg := none, kwonlyargs := [], kw_defaults := kd, kwarg := some ⟨pd, a2, q2⟩, defaults := df })
    (hbody : ∀ (cdv : Value) (A : Around) (outer : List Env) (s : Shared) (H : Hp) (vs : List V) (Q : VK) (E : XK), Room k (A.deeper (envOfC qual (defScope st) s.heap.objs.size f cdv)) → sp vs H Q E →
      ∃ t, PSs (cxOf CX P w K mg base N qual (defScope st) f cdv A outer s H E) (defBody st) t ∧ t { nx := fun _ H' => Q .non H', rt := Q } (start N vs) H) :
    KwOk P w K mg base CX (k + 1) f p1 sp := by
  intro A outer s H x u kvs ws Q E hr e0 rx rk nod hk hz hq
  obtain ⟨oc, od, kV, doc, pm, an, cdv, ct, osl, rfl, lk, hcd⟩ := F.ex
  obtain ⟨q1, q2, a1, a2, kd, df, hp⟩ := hp
  have hn : H s.heap.objs.size = none := e0.hok.fresh (Nat.le_refl _)
  have len : ((kvs.map (·.1)).zip ws).length = kvs.length := by
    have := congrArg List.length (zip_fst rk)
    simpa using this
  refine StX.run_bnd lk hcd S hr e0 (G := fun xs H2 => ∃ d, H d = none ∧ d ≠ sysModules ∧ xs = [x, .ref d] ∧ H2 = upd H d (.dK (nms kvs))) (fun A' Ex Q' h => ?_) fun s2 H2 xs ⟨d, hd, dn, ex, eH⟩ hr' => ?_
  · rw [bind_kw qual _ _ _ kV doc pm an cdv ct nm p1 pd q1 q2 a1 a2 kd df hp u _ (fun y hy => ?_) (by rw [len]; exact hz)]
    · have big := StX.env0_big e0
      refine wpAny_bind (wpAny_alloc (wpAny_bind (fill_at _ _ [] 0 (Heap.get?_push_size _ rfl) (fun _ _ _ e => nomatch e) (fun _ e => nomatch e) (by rw [zip_fst rk]; exact nod) fun h1 at1 sb => wpAny_pure ?_)))
      have kp : ∀ b o, s.heap.get? b = some o → h1.get? b = some o := fun b o e => (sb.2 b (Nat.ne_of_lt (Heap.lt_size e))).trans (Heap.get?_push_of_some _ e)
      have dd : h1.DictOf (mixKind P w) s.heap.objs.size (((kvs.map (·.1)).zip ws).map fun x => ((Sum.inr x.1 : Key), x.2)) := names_dict at1 (by rw [zip_fst rk]; exact nod)
      have new : ObjOk P w (upd H s.heap.objs.size (.dK (nms kvs))) h1 s.heap.objs.size (.dK (nms kvs)) := dk_new (by unfold nms; rw [List.length_map]; exact hz) (by simpa using Nat.ne_of_gt big) (kv_rel rk) dd
      have un : Un (frs outer) [] H (upd H s.heap.objs.size (.dK (nms kvs))) s.heap h1 := Un.laid kp (Nat.le_refl _) hn
      have e2 := env0_more (s := s) (t := s.toks + ((kvs.map (·.1)).zip ws).length) e0 kp (by rw [sb.1, show (s.heap.push ({ cls := .type "dict", data := .dict #[] } : Obj)).objs.size = s.heap.objs.size + 1 from Heap.size_push _ _]; exact Nat.le_succ _) new
      exact h _ _ [x, .ref s.heap.objs.size] [u, .ref s.heap.objs.size] e2 un rfl (fun e s' => hCX outer s H _ _ E e s' un kp rfl) (.cons rx (.cons rfl .nil)) rfl ⟨_, hn, Nat.ne_of_gt big, rfl, rfl⟩
    · have : y.1 ∈ kvs.map (·.1) := by
        rw [← zip_fst rk]
        exact List.mem_map_of_mem hy
      obtain ⟨z, hz', e⟩ := List.mem_map.mp this
      rw [← e]
      exact hk z hz'
  · subst ex eH
    exact hbody cdv A outer s2 _ _ Q E hr' (hq d hd dn)
end
end Mrg

set_option Elab.async false
set_option linter.all false
set_option maxRecDepth 100000
set_option maxHeartbeats 4000000
/-! What ** of a dict does: its entries go into another dict, one by one. -/
namespace Mrg
open PySem PySem.Spec PyProof.Rows L2
section
variable {prog : Program} {w : World} {κ : Type} [DecidableEq κ] {kd : KeyKind prog w κ} {A : Around} {E : Value → Shared → Prop} {s : Shared}
/-- one entry put into d -/
theorem put_at {d : Addr} {old : List (κ × Value)} {k : κ} {key v : Value} {Q : Unit → Shared → Prop} (is : kd.is k key = true) (m : s.heap.DictOf kd d old) (z : old.length ≤ sizeLine)
    (q : ∀ h1, h1.DictOf kd d (stored old k v) → Heap.SameBut d s.heap h1 → Q () { s with heap := h1 }) : wpAny (model prog w) A (dictPut d (kd.hash k) key v) Q E s := by
  obtain ⟨ob, arr, n, at_, ex, dat, ks, pr, nod⟩ := m
  have sz : arr.size ≤ sizeLine := by
    have a1 := pr.length
    rw [Array.length_toList] at a1
    omega
  have same : (arr.findIdx? fun e => kd.is k e.key) = old.findIdx? fun kv => decide (kv.1 = k) := by
    rw [← pr.findIdx k]
    cases arr
    simp
  unfold dictPut
  refine wpAny_bind (wpAny_dictFind_of is at_ dat ks ?_)
  cases fnd : arr.findIdx? fun e => kd.is k e.key with
  | none =>
    have no : ¬ (old.any fun x => decide (x.1 = k)) = true := by
      intro y
      obtain ⟨x, hx, ex⟩ := List.any_eq_true.mp y
      have n1 := List.findIdx?_eq_none_iff.mp (same.symm.trans fnd) x hx
      rw [n1] at ex
      cases ex
    have gone : k ∉ old.map (·.1) := fun y => by
      obtain ⟨x, hx, e⟩ := List.mem_map.mp y
      exact no (List.any_eq_true.mpr ⟨x, hx, decide_eq_true e⟩)
    have st : stored old k v = old ++ [(k, v)] := by
      unfold stored
      rw [if_neg no]
    refine wpAny_updateDictKeys (hz := sz) at_ dat (q _ ?_ (Heap.SameBut.update ..))
    rw [st]
    refine ⟨_, _, n + 1, Heap.get?_update_self _ at_ (Obj.isFreed_of_dict (Obj.data_mapDictKeys dat _)), ex.mapDictKeys _, Obj.data_mapDictKeys dat _, ks.push is _, ?_, ?_⟩
    · have a2 := pr.append is (kd.hash k) v
      cases arr
      simpa using a2
    · rw [List.map_append, List.nodup_append]
      refine ⟨nod, by simp, fun a ha b hb => ?_⟩
      obtain rfl : b = k := by simpa using hb
      intro e
      exact gone (e ▸ ha)
  | some i =>
    have yes : (old.any fun x => decide (x.1 = k)) = true := by
      obtain ⟨hi, h1, _⟩ := List.findIdx?_eq_some_iff_getElem.mp (same.symm.trans fnd)
      exact List.any_eq_true.mpr ⟨_, List.getElem_mem hi, h1⟩
    have st : stored old k v = old.map fun x => if x.1 = k then (x.1, v) else x := by
      unfold stored
      rw [if_pos yes]
    refine wpAny_updateDict at_ dat (q _ ?_ (Heap.SameBut.update ..))
    rw [st]
    refine ⟨_, _, n, Heap.get?_update_self _ at_ (Obj.isFreed_of_dict (Obj.data_mapDict dat _)), ex.mapDict _, Obj.data_mapDict dat _, ks.modify _ _, ?_, ?_⟩
    · have l : (arr.toList.findIdx? fun e => kd.is k e.key) = some i := by
        rw [← fnd]
        cases arr
        simp
      have a3 := pr.modify nod l v
      cases arr
      simpa using a3
    · rw [keys_map_store]
      exact nod
/-- the walk over the entries -/
theorem merge_tail {d o : Addr} {old more : List (κ × Value)} {u : Bool} {Q : Unit → Shared → Prop} (ne : d ≠ o) (hd : s.heap.DictOf kd d old) (ho : s.heap.DictOf kd o more) (hu : u = true → old = []) (z : old.length + more.length ≤ sizeLine)
    (q : ∀ h1, h1.DictOf kd d (merged old more) → h1.DictOf kd o more → Heap.SameBut d s.heap h1 → Q () { s with heap := h1 }) :
    wpAny (model prog w) A (do
      let l ← dictEntries o
      let epoch ← dictEpoch o
      forIn (List.range l.size) PUnit.unit fun i (_ : PUnit) => (do
        let now ← dictEntries o
        match now[i]? with
        | some e => do
          holding [e.key, e.val]
            (if u = true then do
              let r ← dictFind d e.key e.hash
              if r.isSome = true then do
                  rule "dict.merge.duplicate-key"
                  let x ← newExc (Value.type "KeyError") [e.key]
                  raiseNew x
                  dictPut d e.hash e.key e.val
                else dictPut d e.hash e.key e.val
            else dictPut d e.hash e.key e.val)
          let ep ← dictEpoch o
          if (ep != epoch) = true then do
              (unsupported "dict.changed-during-merge" : Sem PUnit)
              pure (ForInStep.yield PUnit.unit)
            else pure (ForInStep.yield PUnit.unit)
        | _ => do
          (unsupported "dict.changed-during-merge" : Sem PUnit)
          pure (ForInStep.yield PUnit.unit) : Sem (ForInStep PUnit))
      pure ()) Q E s := by
  obtain ⟨ob, arr, n, at_, ex, dat, ks, pr, nod⟩ := id ho
  have len : more.length = arr.size := by
    rw [← pr.length]
    exact Array.length_toList
  refine wpAny_bind (wpAny_dictEntries at_ dat (wpAny_bind (wpAny_dictEpoch at_ dat (wpAny_bind ?_))))
  rw [List.range_eq_range']
  refine wpAny_forIn_list _ (fun left _ s1 => ∃ (h1 : Heap) (i : Nat), s1 = { s with heap := h1 } ∧ left = List.range' i (arr.size - i) ∧ i ≤ arr.size ∧ h1.DictOf kd d (merged old (more.take i)) ∧ h1.get? o = some ob ∧ Heap.SameBut d s.heap h1) _ ?_ ?_ _ _
    ⟨s.heap, 0, rfl, rfl, Nat.zero_le _, hd, at_, Heap.SameBut.refl _ _⟩
  · rintro x left c s1 ⟨h1, i, rfl, el, hi, h1d, h1o, sb⟩
    have lt : i < arr.size := by
      rcases Nat.lt_or_ge i arr.size with y | y
      · exact y
      · rw [Nat.sub_eq_zero_of_le y] at el
        cases el
    have e1 : arr.size - i = (arr.size - (i + 1)) + 1 := by omega
    rw [e1, List.range'_succ] at el
    obtain ⟨rfl, rfl⟩ := List.cons.inj el
    refine wpAny_bind (wpAny_dictEntries h1o dat ?_)
    rw [Array.getElem?_eq_getElem lt]
    have lm : x < more.length := by omega
    have em : more[x]? = some more[x] := List.getElem?_eq_getElem lm
    obtain ⟨k1, v1⟩ := pr.get? (e := arr[x]) (by rw [Array.getElem?_toList, Array.getElem?_eq_getElem lt]) em
    obtain ⟨k', k2, hh⟩ := ks arr[x] (Array.getElem_mem lt)
    obtain rfl := kd.inj _ _ _ k2 k1
    dsimp only
    rw [hh, v1]
    have lz : (merged old (more.take x)).length ≤ sizeLine := by
      have a1 := merged_length_le old (more.take x)
      have a2 : (more.take x).length ≤ more.length := by
        rw [List.length_take]
        omega
      omega
    have fin : wpAny (model prog w) A (dictPut d (kd.hash more[x].1) arr[x].key more[x].2) (fun _ s2 => ∃ h2 : Heap, s2 = { s with heap := h2 } ∧ h2.DictOf kd d (merged old (more.take (x + 1))) ∧ h2.get? o = some ob ∧ Heap.SameBut d s.heap h2) E { s with heap := h1 } :=
      put_at k1 h1d lz fun h2 d2 sb2 => ⟨h2, rfl, by rw [merged_take_succ old more x more[x] em]; exact d2, (sb2.2 o (Ne.symm ne)).trans h1o, sb.trans sb2⟩
    refine wpAny_bind (wpAny_holding (wpAny_mono (Q := fun _ s2 => ∃ h2 : Heap, s2 = { s with heap := h2 } ∧ h2.DictOf kd d (merged old (more.take (x + 1))) ∧ h2.get? o = some ob ∧ Heap.SameBut d s.heap h2) ?_ (fun _ s2 y => ?_) fun _ _ y => y))
    · cases u with
      | false => exact fin
      | true =>
        obtain rfl := hu rfl
        obtain ⟨od, ard, nn, atd, exd, datd, ksd, prd, nodd⟩ := h1d
        rw [if_pos rfl]
        refine wpAny_bind (wpAny_dictFind_of k1 atd datd ksd ?_)
        have no : (ard.findIdx? fun e => kd.is more[x].1 e.key) = none := by
          have y : (ard.findIdx? fun e => kd.is more[x].1 e.key) = (merged [] (more.take x)).findIdx? fun kv => decide (kv.1 = more[x].1) := by
            rw [← prd.findIdx more[x].1]
            cases ard
            simp
          rw [y, List.findIdx?_eq_none_iff]
          intro p hp
          refine decide_eq_false fun e => ?_
          rw [merged_nil_of_nodup _ (by rw [List.map_take]; exact nod.sublist (List.take_sublist _ _))] at hp
          obtain ⟨j, hj, ej⟩ := List.getElem_of_mem hp
          rw [List.getElem_take] at ej
          have jx : j < x := by
            rw [List.length_take] at hj
            omega
          rw [← ej] at e
          exact List.pairwise_iff_getElem.mp nod j x (by rw [List.length_map]; omega) (by rw [List.length_map]; omega) jx (by rw [List.getElem_map, List.getElem_map]; exact e)
        rw [if_neg (show ¬ ((ard.findIdx? fun e => kd.is (more.get ⟨x, lm⟩).fst e.key).isSome = true) from by
          rw [show (ard.findIdx? fun e => kd.is (more.get ⟨x, lm⟩).fst e.key) = none from no]
          exact Bool.false_ne_true)]
        exact fin
    · obtain ⟨h2, rfl, d2, o2, sb2⟩ := y
      refine wpAny_bind (wpAny_dictEpoch o2 dat ?_)
      rw [if_neg (by simp)]
      exact wpAny_pure ⟨h2, x + 1, rfl, rfl, lt, d2, o2, sb2⟩
  · rintro c s1 ⟨h1, i, rfl, el, hi, h1d, h1o, sb⟩
    have ei : i = arr.size := by
      have y := congrArg List.length el
      rw [List.length_range'] at y
      simp at y
      omega
    subst ei
    refine wpAny_pure (q h1 ?_ ⟨ob, arr, n, h1o, ex, dat, ks, pr, nod⟩ sb)
    rw [← len, List.take_length] at h1d
    exact h1d
theorem merge_at {d o : Addr} {old more : List (κ × Value)} {u : Bool} {Q : Unit → Shared → Prop} (ne : d ≠ o) (ns : (o == sysModules) = false) (hd : s.heap.DictOf kd d old) (ho : s.heap.DictOf kd o more) (hu : u = true → old = []) (z : old.length + more.length ≤ sizeLine)
    (q : ∀ h1, h1.DictOf kd d (merged old more) → h1.DictOf kd o more → Heap.SameBut d s.heap h1 → Q () { s with heap := h1 }) : wpAny (model prog w) A (mergeMapping d (.ref o) u) Q E s := by
  obtain ⟨ob, arr, n, at_, ex, dat, ks, pr, nod⟩ := id ho
  obtain ⟨od, ard, nn, atd, exd, datd, ksd, prd, nodd⟩ := id hd
  unfold mergeMapping
  refine wpAny_bind (wpAny_isInstance ho.typeIs isSubtype_dict_dict ?_)
  simp only [if_true]
  refine wpAny_bind (wpAny_specialOf ho.typeIs F.slot_dict_iter.lookup (wpAny_bind (wpAny_pure ?_)))
  simp only [beq_self_eq_true]
  rw [if_neg (by rw [ns]; exact Bool.false_ne_true)]
  refine wpAny_bind (wpAny_dictEntries atd datd ?_)
  by_cases emp : ard.isEmpty = true
  · rw [if_pos emp]
    refine wpAny_bind (wpAny_dictEntries at_ dat (wpAny_bind ?_))
    rw [← Array.forIn_toList]
    refine wpAny_forIn_list _ (fun left _ s1 => s1 = s ∧ ∀ e ∈ left, e ∈ arr.toList) _ ?_ ?_ _ _ ⟨rfl, fun _ y => y⟩
    · rintro e left c s1 ⟨rfl, mem⟩
      obtain ⟨k, k1, _⟩ := ks e (Array.mem_toList_iff.mp (mem e (.head _)))
      have bv := kd.byValue k _ k1
      cases ek : e.key with
      | ref a =>
        rw [ek] at bv
        cases bv
      | _ => exact wpAny_pure ⟨rfl, fun x y => mem x (.tail _ y)⟩
    · rintro c s1 ⟨rfl, _⟩
      exact merge_tail ne hd ho hu z q
  · rw [if_neg emp]
    exact merge_tail ne hd ho hu z q
end
end Mrg

set_option Elab.async false
set_option linter.all false
set_option maxRecDepth 100000
set_option maxHeartbeats 4000000
/-! A call f(**d). -/
namespace Mrg
open PySem PySem.Spec PyProof.Rows PySem.W L2
section
variable {P : Program} {w : World} {A : Around} {E : Value → Shared → Prop} {s : Shared}
def nameOf : Value → Str
  | .str z _ => z
  | _ => ""
def byN (ex : List (Str × Value)) : List (Key × Value) := ex.map fun x => ((Sum.inr x.1 : Key), x.2)
theorem keys_named : ∀ {es : List DictEntry} {ex : List (Str × Value)}, Pairs (mixKind P w) es (byN ex) → (∀ e ∈ es, ∃ z t, e.key = .str z t) ∧ ∀ acc, es.foldl (fun (b : List (Str × Value)) e => b ++ [(nameOf e.key, e.val)]) acc = acc ++ ex
  | [], [], _ => ⟨fun _ h => (by cases h), fun acc => (List.append_nil acc).symm⟩
  | e :: es, x :: ex, h => by
    cases h with
    | cons a b t =>
      obtain ⟨i1, i2⟩ := keys_named t
      have kk : ∃ t, e.key = .str x.1 t := by
        rcases keyIs_shape (show keyIs (Sum.inr x.1 : Key) e.key = true from a) with ⟨i, t, q, _⟩ | ⟨z, t, q, q2⟩
        · cases q
        · cases q
          exact ⟨t, q2⟩
      obtain ⟨t1, ek⟩ := kk
      refine ⟨fun y hy => ?_, fun acc => ?_⟩
      · rcases List.mem_cons.mp hy with rfl | hy
        · exact ⟨_, _, ek⟩
        · exact i1 y hy
      · rw [List.foldl_cons, i2, ek, show e.val = x.2 from b]
        show acc ++ [(x.1, x.2)] ++ ex = _
        rw [List.append_assoc]
        rfl
theorem keywords_at {f : Value} {d : Addr} {ex : List (Str × Value)} {Q : List (Str × Value) → Shared → Prop} (m : s.heap.DictOf (mixKind P w) d (byN ex)) (q : Q ex s) : wpAny (model P w) A (keywordsIn f d) Q E s := by
  obtain ⟨ob, arr, n, at_, x1, dat, ks, pr, nod⟩ := m
  obtain ⟨k1, k2⟩ := keys_named pr
  unfold keywordsIn
  refine wpAny_bind (wpAny_dictEntries at_ dat ?_)
  rw [← Array.forIn_toList, forIn_yields (g := fun (b : List (Str × Value)) e => b ++ [(nameOf e.key, e.val)]) _ _ (fun e he b => by
    obtain ⟨z, t, ek⟩ := k1 e he
    rw [ek]
    rfl), k2, List.nil_append]
  exact wpAny_bind (wpAny_pure (wpAny_pure q))
theorem args_star {f : Value} {T : Sem Value} {Q : Args → Shared → Prop}
    (h : wpAny (model P w) A T (fun v s1 => ∃ (o : Addr) (ex : List (Str × Value)), v = .ref o ∧ s.heap.objs.size ≠ o ∧ (o == sysModules) = false ∧ s1.heap.DictOf (mixKind P w) s.heap.objs.size [] ∧ s1.heap.DictOf (mixKind P w) o (byN ex) ∧ ex.length ≤ sizeLine ∧
      ∀ h2 : Heap, Heap.SameBut s.heap.objs.size s1.heap h2 → h2.DictOf (mixKind P w) s.heap.objs.size (byN ex) → Q ⟨[], ex⟩ { s1 with heap := h2 }) E { s with heap := s.heap.push ({ cls := .type "dict", data := .dict #[] } : Obj) }) :
    wpAny (model P w) A (evalArgs f true [] [(none, T)]) Q E s := by
  unfold evalArgs
  refine wpAny_bind ?_
  refine Calls.spliced_nil (wpAny_bind (wpAny_pure (wpAny_holding ?_)))
  rw [if_neg (show ¬ ([((none : Option Str), T)].all fun x => x.1.isSome) = true from Bool.false_ne_true)]
  refine wpAny_bind ?_
  unfold mergedKeywords
  refine wpAny_bind (wpAny_alloc (wpAny_bind (wpAny_holding ?_)))
  show wpAny _ _ (forIn [((none : Option Str), T)] ([] : List (Str × Sem Value)) _ >>= _) _ _ _
  refine wpAny_bind ?_
  rw [List.forIn_cons]
  refine wpAny_bind ?_
  show wpAny _ _ ((pure () : Sem Unit) >>= fun _ => T >>= fun v => _) _ _ _
  refine wpAny_bind (wpAny_pure (wpAny_bind (wpAny_mono h (fun v s1 z => ?_) fun _ _ y => y)))
  obtain ⟨o, ex, rfl, ne, lo, hd, ho, hz, q⟩ := z
  have em : merged [] (byN ex) = byN ex := merged_nil_of_nodup _ (by
    obtain ⟨_, _, _, _, _, _, _, _, nod⟩ := ho
    exact nod)
  refine wpAny_bind (wpAny_onRaise (wpAny_holding (wpAny_tryCatch (wpAny_onRaise (merge_at (kd := mixKind P w) ne lo hd ho (fun _ => rfl) (by unfold byN; rw [List.length_map, List.length_nil]; omega) fun h2 d2 o2 sb => ?_)))))
  refine wpAny_pure ?_
  show wpAny _ _ (forIn ([] : List (Option Str × Sem Value)) _ _) _ _ _
  rw [List.forIn_nil]
  refine wpAny_pure ?_
  show wpAny _ _ (pure () : Sem Unit) _ _ _
  refine wpAny_pure (wpAny_pure ?_)
  refine wpAny_bind (wpAny_pure (wpAny_bind (wpAny_holding (keywords_at (P := P) (w := w) (ex := ex) ?_ (wpAny_pure (q h2 sb ?_))))))
  · rw [← em]
    exact d2
  · rw [← em]
    exact d2
/-- the call's node -/
theorem node_star {K : Frag} {f : Value} {T : Sem Value} {pos : Pos} {Q : Value → Shared → Prop} (hk : keepIn K f = true)
    (h : wpAny (model P w) A (evalArgs f true [] [(none, T)]) (fun a s1 => K.In s1.heap ∧ wpAny (model P w) A (call f a.pos a.kw) Q E s1) E s) : wpAny (model P w) A (callWith pos f [] [] [(none, T)]) Q E s := by
  unfold callWith
  refine wpAny_bind (wpAny_holding (wpAny_mono h (fun a s1 z => wpAny_bind (wpAny_standAt ?_)) fun _ _ y => y))
  obtain ⟨k, k1, k2⟩ := keeps_K (M := model P w) hk _ z.1
  refine wpAny_bind (k2.here ?_)
  have fin : ∀ {t : Sem Value}, wpAny (model P w) A t Q E s1 → wpAny (model P w) A (t >>= fun r => holding [r] point >>= fun _ => pure r) Q E s1 :=
    fun y => wpAny_bind (wpAny_mono y (fun r s2 y2 => wpAny_bind (wpAny_holding (wpAny_point (wpAny_pure y2)))) fun _ _ y2 => y2)
  rcases k1 with rfl | rfl | rfl
  · refine fin ?_
    show wpAny _ _ (callMarked _ f a.pos a.kw) _ _ _
    unfold callMarked
    exact Calls.wpAny_keep z.2
  · exact fin (wpAny_operating z.2)
  · exact fin (wpAny_operating z.2)
end
end Mrg

set_option Elab.async false
set_option linter.all false
set_option maxRecDepth 100000
set_option maxHeartbeats 4000000
/-! C(a = v, ..), C(**d) where C's __init__ takes **d. -/
namespace Mrg
open PySem PySem.Spec PyProof.Rows PySem.W L2
/-- a new instance of C at x with its dict at dx -/
def made (H : Hp) (C x dx : Addr) : Hp := upd (upd H dx (.own x)) x (.ins C dx [])
/-- what making such an instance asks at H -/
def MadeW (C : Addr) (sp : Sp) (E : XK) (kvs : List (Str × V)) (H : Hp) (Q : VK) : Prop := ∀ x dx, H x = none → H dx = none → dx ≠ x → ∀ d, made H C x dx d = none → d ≠ sysModules →
  sp [.ref x, .ref d] (upd (made H C x dx) d (.dK (nms kvs))) (fun v H2 => v = .non ∧ Q (.ref x) H2) E
structure Kws (p1 : Str) (kvs : List (Str × V)) : Prop where
  nod : (kvs.map (·.1)).Nodup
  no : ∀ y ∈ kvs, y.1 ≠ p1
  few : kvs.length ≤ sizeLine
section
variable {X : Cx} {CX : CXT} {k : Nat} {f C : Addr} {p1 : Str} {sp : Sp} {E : XK} {pins : List (Addr × Obj)} {σ : L2.St} {H : Hp} {s : Shared} {Q : VK}
theorem run_makeW {kvs : List (Str × V)} {ws : List Value} (M : Mk X.K C f) (F : KwOk X.prog X.w X.K X.mg X.base CX k f p1 sp) (hr : Room (k + 1) X.A) (hx : Passes CX X E) (I : Inv X pins σ H s) (rk : Vals (kvs.map (·.2)) ws) (hk : Kws p1 kvs) (h : MadeW C sp E kvs H Q) :
    wpAny (model X.prog X.w) X.A (call (.ref C) [] ((kvs.map (·.1)).zip ws)) (EP X pins σ Q) X.xe s := by
  have hq := h (s.heap.objs.size + 1) s.heap.objs.size (I.hok.fresh (Nat.le_succ _)) (I.hok.fresh (Nat.le_refl _)) (Nat.ne_of_lt (Nat.lt_succ_self _))
  have I2 := Inv.made (C := C) I
  refine wpAny_call (make_map (f := f) I.kIn M.makes M.init (beq_iff_eq.mp M.fn) (codeAny_mono (F _ X.stack _ _ (.ref (s.heap.objs.size + 1)) (.ref (s.heap.objs.size + 1)) kvs ws _ E (hr.make C [] _) (I2.env0.make C [] _) rfl rk hk.nod hk.no hk.few hq) fun r s1 z => ?_))
  cases r with
  | error e => exact hx pins σ _ _ e s1 I2 z
  | ok fl =>
    cases fl with
    | ret u =>
      obtain ⟨v, H1, I3, rv, ev, q⟩ := I2.after z
      subst ev
      exact ⟨rv, ⟨.ref (s.heap.objs.size + 1), H1, I3, rfl, q⟩⟩
    | next => exact False.elim z
    | brk => exact False.elim z
    | cont => exact False.elim z
theorem zip_names : ∀ {ks : List Str} {zs : List V}, zs.length = ks.length → (ks.zip zs).map (·.1) = ks ∧ (ks.zip zs).map (·.2) = zs
  | [], [], _ => ⟨rfl, rfl⟩
  | k :: ks, z :: zs, h => by
    obtain ⟨a, b⟩ := zip_names (ks := ks) (zs := zs) (Nat.succ.inj h)
    exact ⟨congrArg (List.cons k) a, congrArg (List.cons z) b⟩
variable {x : Str} {p pos q : Pos} {kws : List Keyword} {ks : List Str} {tk : TA} {e : Expr} {te : TE}
/-- C(a = v, ..) -/
def tMakeW (C : Addr) (p1 : Str) (ks : List Str) (sp : Sp) (E : XK) (tk : TA) : TE := fun σ H Q => tk σ H fun zs H1 => zs.length = ks.length ∧ Kws p1 (ks.zip zs) ∧ MadeW C sp E (ks.zip zs) H1 Q
theorem pe_makeW (M : Mk X.K C f) (F : KwOk X.prog X.w X.K X.mg X.base CX k f p1 sp) (hr : Room (k + 1) X.A) (hg : Gl X x) (hm : X.mg x = some (.ref C)) (hx : Passes CX X E) (hkw : PK X kws tk)
    (hall : (backToKw pos (keywordEach kws X.env)).all (·.1.isSome) = true := by rfl) (hks : (backToKw pos (keywordEach kws X.env)).filterMap (·.1) = ks := by rfl) (hdb : (x == ("__debug__" : Str)) = false := by decide)
    (hpl : ((backTo pos (starEach [] X.env)).any (·.1) || (backToKw pos (keywordEach kws X.env)).any (·.1.isNone)) = false := by rfl) :
    PE X (.Call (.Name x p) [] kws pos) (tMakeW C p1 ks sp E tk) := by
  refine ⟨fun pins s σ H Q I h => ?_⟩
  refine wpAny_Call_Name_kw (ld_glob I hg hm ?_ hdb)
  refine callWith_KW0 (h₀ := X.base) I.ok.mod.kin M.kp hall (thn (hkw.run pos pins s σ H _ I h) fun ws s1 ⟨zs, H1, I1, rz, l, hk, q⟩ => ⟨I1.kIn, ?_⟩) hpl
  rw [hks]
  obtain ⟨n1, n2⟩ := zip_names l
  have z := run_makeW M F hr hx I1 (kvs := ks.zip zs) (ws := ws) (by rw [n2]; exact rz) hk q
  rw [n1] at z
  exact z
/-- C(**e) -/
def tMakeD (C : Addr) (p1 : Str) (sp : Sp) (E : XK) (te : TE) : TE := fun σ H Q => ∀ g, H g = none → te σ (upd H g (.dK [])) fun v H1 => H1 g = some (.dK []) ∧ ∃ (o : Addr) (kvs : List (Str × V)), v = .ref o ∧ g ≠ o ∧ Rd H1 o (.dK (nms kvs)) ∧ Kws p1 kvs ∧
  MadeW C sp E kvs (upd H1 g (.dK (nms kvs))) Q
theorem kv_names : ∀ {kvs : List (Str × V)} {vs : List (Key × Value)}, KV (nms kvs) vs → ∃ ws, Vals (kvs.map (·.2)) ws ∧ vs = byN ((kvs.map (·.1)).zip ws)
  | [], [], _ => ⟨[], .nil, rfl⟩
  | y :: kvs, v :: vs, h => by
    cases h with
    | cons a t =>
      obtain ⟨ws, r, e⟩ := kv_names t
      obtain ⟨a1, a2⟩ := a
      refine ⟨v.2 :: ws, .cons a2 r, ?_⟩
      rw [e]
      show v :: _ = ((Sum.inr y.1 : Key), v.2) :: _
      rw [show (Sum.inr y.1 : Key) = v.1 from a1]
      rfl
theorem pe_makeD (M : Mk X.K C f) (F : KwOk X.prog X.w X.K X.mg X.base CX k f p1 sp) (hr : Room (k + 1) X.A) (hg : Gl X x) (hm : X.mg x = some (.ref C)) (hx : Passes CX X E) (he : PE X e te) (hdb : (x == ("__debug__" : Str)) = false := by decide) :
    PE X (.Call (.Name x p) [] [⟨none, e, q⟩] pos) (tMakeD C p1 sp E te) := by
  refine ⟨fun pins s σ H Q I h => ?_⟩
  refine wpAny_Call_Name_kw (ld_glob I hg hm ?_ hdb)
  show wpAny _ _ (callWith pos (.ref C) [] [] [(none, (do let v ← eval e X.env; standAt pos; pure v))]) _ _ _
  refine node_star M.kp (args_star ?_)
  have I0 : Inv X pins σ (upd H s.heap.objs.size (.dK [])) { s with heap := s.heap.push ({ cls := .type "dict", data := .dict #[] } : Obj) } :=
    I.laid (a := s.heap.objs.size) (o := .dK []) (t' := s.toks) (fun _ _ q => Heap.get?_push_of_some _ q) (Nat.le_refl _) (dk_empty s.heap I.big)
  refine wpAny_bind (thn (he.run pins _ σ _ _ I0 (h _ (I.hok.fresh (Nat.le_refl _)))) fun v s1 ⟨y, H1, I1, ry, hgd, o, kvs, ey, ne, rd, hk, hq⟩ => wpAny_bind (wpAny_standAt (wpAny_pure ?_)))
  subst ey
  obtain rfl : v = Value.ref o := ry
  obtain ⟨z, lo, vs, rel, dd⟩ := dk_rd I1.hok rd
  obtain ⟨z0, lo0, vs0, rel0, dd0⟩ := dk_of I1.hok hgd
  obtain ⟨ws, rw', rfl⟩ := kv_names rel
  have e0 : vs0 = [] := by
    cases rel0
    rfl
  subst e0
  refine ⟨o, (kvs.map (·.1)).zip ws, rfl, ne, lo, dd0, dd, ?_, fun h2 sb d2 => ⟨?_, ?_⟩⟩
  · have := congrArg List.length (zip_fst rw')
    simp only [List.length_map] at this
    rw [this]
    exact hk.few
  all_goals
    have I2 : Inv X pins σ (upd H1 s.heap.objs.size (.dK (nms kvs))) { s1 with heap := h2 } := d_write (t' := s1.toks) I1 (by rw [hgd]; exact True.intro) sb (let ⟨q, _, _, hq, _⟩ := d2; ⟨q, hq⟩) (dk_new z lo0 rel d2)
  · exact I2.kIn
  · exact run_makeW M F hr hx I2 rw' hk hq
end
end Mrg

set_option Elab.async false
set_option linter.all false
set_option maxRecDepth 100000
set_option maxHeartbeats 4000000
/-! Side.__init__. -/
namespace Fk
open PySem PySem.Spec PyProof.Rows L2 EvP Cm
/-- more built-ins that are still themselves -/
structure Blt2 (mg : Str → Option Value) : Prop where
  sorted : mg "sorted" = none
  tuple : mg "tuple" = none
  sum : mg "sum" = none
/-- the class Side -/
structure SideC (K : PySem.W.Frag) (C : Addr) : Prop where
  cl : Cls K C
  nN : NoAttr K C "names"
  nT : NoAttr K C "total"
  nA : NoAttr K C "_amounts"
  nR : NoAttr K C "_rows"
/-- the side at a tells just ts -/
structure SideAt (C : Addr) (H : Hp) (a : Addr) (ts : Row) : Prop where
  ex : ∃ (dx n d r : Addr) (rows : List V), H a = some (.ins C dx [("names", .ref n), ("total", .int (ts.map (·.2)).sum), ("_amounts", .ref d), ("_rows", .ref r)]) ∧ H n = some (.tup (ts.map fun t => V.str t.1)) ∧ H d = some (.dK (ents ts)) ∧
    H r = some (.tup rows) ∧ All2 H (ts.map fun t => tupV [.str t.1, .int t.2]) rows
theorem SideAt.mono {C : Addr} {H H' : Hp} {a : Addr} {ts : Row} (e : Ex H H') (h : SideAt C H a ts) : SideAt C H' a ts := by
  obtain ⟨dx, n, d, r, rows, h1, h2, h3, h4, h5⟩ := h
  exact ⟨dx, n, d, r, rows, e _ _ h1, e _ _ h2, e _ _ h3, e _ _ h4, h5.ex e⟩
/-- the same, its dict of amounts new over H0 -/
def SideN (C : Addr) (H0 H : Hp) (a : Addr) (ts : Row) : Prop :=
  ∃ (dx n d r : Addr) (rows : List V), H a = some (.ins C dx [("names", .ref n), ("total", .int (ts.map (·.2)).sum), ("_amounts", .ref d), ("_rows", .ref r)]) ∧ H n = some (.tup (ts.map fun t => V.str t.1)) ∧ H d = some (.dK (ents ts)) ∧
    H r = some (.tup rows) ∧ All2 H (ts.map fun t => tupV [.str t.1, .int t.2]) rows ∧ H0 d = none
theorem SideN.at {C : Addr} {H0 H : Hp} {a : Addr} {ts : Row} (h : SideN C H0 H a ts) : SideAt C H a ts := by
  obtain ⟨dx, n, d, r, rows, h1, h2, h3, h4, h5, _⟩ := h
  exact ⟨dx, n, d, r, rows, h1, h2, h3, h4, h5⟩
theorem SideN.mono {C : Addr} {H0 H H' : Hp} {a : Addr} {ts : Row} (e : Ex H H') (h : SideN C H0 H a ts) : SideN C H0 H' a ts := by
  obtain ⟨dx, n, d, r, rows, h1, h2, h3, h4, h5, h6⟩ := h
  exact ⟨dx, n, d, r, rows, e _ _ h1, e _ _ h2, e _ _ h3, e _ _ h4, h5.ex e, h6⟩
theorem SideN.back {C : Addr} {H0 H1 H : Hp} {a : Addr} {ts : Row} (e : Ex H0 H1) (h : SideN C H1 H a ts) : SideN C H0 H a ts := by
  obtain ⟨dx, n, d, r, rows, h1, h2, h3, h4, h5, h6⟩ := h
  exact ⟨dx, n, d, r, rows, h1, h2, h3, h4, h5, e.back h6⟩
/-- amounts by name, good ones -/
structure Good (kvs : Row) : Prop where
  nod : (kvs.map (·.1)).Nodup
  nm : ∀ t ∈ kvs, NameV (.str t.1)
  am : ∀ t ∈ kvs, 0 ≤ t.2
  few : kvs.length < 64
def spInit (C : Addr) : Sp := fun vs H Q _ => ∃ (x d dx : Addr) (kvs : Row), vs = [.ref x, .ref d] ∧ H x = some (.ins C dx []) ∧ H d = some (.dK (ents kvs)) ∧ Good kvs ∧
  ∀ H', (∀ b o, H b = some o → b ≠ x → H' b = some o) → SideN C H H' x (told kvs) → Q .non H'
theorem scInit : FnScope ["side_itself", "amounts", "keywords", "name"] ["side_itself", "amounts"] (defScope sInit) := ⟨rfl, rfl, rfl, by decide +kernel, rfl, by decide +kernel, by decide +kernel⟩
abbrev NI : List Str := ["side_itself", "amounts", "keywords", "name"]
section
variable {K : PySem.W.Frag} {te ta : TE} {σ : L2.St} {H : Hp} {P : PR} {sp : Sp} {dvs : List V} {E : XK} {u : TS} {D : Ends} {f : Str}
theorem st_call (h : EvP.Gives te σ H P) (k : ∀ v H1, Ex H H1 → P.R v H1 → sp ([v] ++ dvs) H1 (fun _ H' => u D σ H') E) : tSeq (tDrop (tCall sp dvs E (tCons te tNil))) u D σ H := h H (Ex.refl H) _ k
theorem st_fld {i : Nat} (h : EvP.Gives te σ H P) (k : ∀ v H1, Ex H H1 → P.R v H1 → ∃ a C dx fs, σ[i]? = some (some (.ref a)) ∧ H1 a = some (.ins C dx fs) ∧ Cls K C ∧ NoAttr K C f ∧ fs.length < 1000 ∧ u D σ (upd H1 a (.ins C dx (putF f v fs)))) :
    tSeq (sFld K (tVar i) te f) u D σ H := h H (Ex.refl H) _ fun v H1 e r => by
  obtain ⟨a, C, dx, fs, h1, h2, h3, h4, h5, h6⟩ := k v H1 e r
  exact ⟨_, h1, a, C, dx, fs, rfl, h2, h3, h4, h5, h6⟩
theorem st_fld1 {i : Nat} (h : EvP.Gives te σ H P) (k : ∀ v H1, Ex H H1 → P.R v H1 → ∃ a C dx fs, σ[i]? = some (some (.ref a)) ∧ H1 a = some (.ins C dx fs) ∧ Cls K C ∧ NoAttr K C f ∧ fs.length < 1000 ∧ D.nx σ (upd H1 a (.ins C dx (putF f v fs)))) :
    sFld K (tVar i) te f D σ H := h H (Ex.refl H) _ fun v H1 e r => by
  obtain ⟨a, C, dx, fs, h1, h2, h3, h4, h5, h6⟩ := k v H1 e r
  exact ⟨_, h1, a, C, dx, fs, rfl, h2, h3, h4, h5, h6⟩
theorem g_fld {i : Nat} {a C dx : Addr} {fs : List (Str × V)} {v : V} (hi : σ[i]? = some (some (.ref a))) (ha : H a = some (.ins C dx fs)) (c : Cls K C) (n : NoAttr K C f) (l : fs.lookup f = some v) (hp : P.R v H) : EvP.Gives (tFld K (tVar i) f) σ H P :=
  fun H1 e Q q => ⟨_, hi, a, C, dx, fs, v, rfl, e _ _ ha, c, n, l, q _ _ (Ex.refl H1) (P.mono _ _ _ e hp)⟩
end
/-- a name's amount, by value -/
def amtV (kvs : Row) : V → V
  | .str n => .int (amt kvs n)
  | _ => .non
def posV (kvs : Row) : V → Bool
  | .str n => decide (0 < amt kvs n)
  | _ => false
def rowP (kvs : Row) : V → PR
  | .str n => tupV [.str n, .int (amt kvs n)]
  | _ => is .non
/-- the names that are told -/
def tns (kvs : Row) : List Str := (srt (kvs.map (·.1))).filter fun n => decide (0 < amt kvs n)
theorem told_eq (kvs : Row) : told kvs = (tns kvs).map fun n => (n, amt kvs n) := by
  unfold told asc tns
  rw [List.filter_map]
  rfl
theorem pos_names (kvs : Row) : ((srt (kvs.map (·.1))).map V.str).filter (posV kvs) = (tns kvs).map V.str := by
  rw [List.filter_map]
  rfl
theorem told_names (kvs : Row) : ((told kvs).map fun t => V.str t.1) = (tns kvs).map V.str := by
  rw [told_eq, List.map_map]
  rfl
theorem told_ents (kvs : Row) : ents (told kvs) = (tns kvs).map fun n => ((Sum.inr n : Key), amtV kvs (.str n)) := by
  unfold ents
  rw [told_eq, List.map_map]
  rfl
theorem told_rows (kvs : Row) : ((told kvs).map fun t => tupV [V.str t.1, .int t.2]) = ((tns kvs).map V.str).map (rowP kvs) := by
  rw [told_eq, List.map_map, List.map_map]
  rfl
theorem sum_pos (g : Str → Int) : ∀ l : List Str, (∀ n ∈ l, 0 ≤ g n) → (l.map g).sum = ((l.filter fun n => decide (0 < g n)).map g).sum
  | [], _ => rfl
  | n :: r, h => by
    have ih := sum_pos g r fun m hm => h m (.tail _ hm)
    have h0 := h n (.head _)
    by_cases p : 0 < g n
    · rw [List.filter_cons, decide_eq_true p, if_pos rfl, List.map_cons, List.map_cons, List.sum_cons, List.sum_cons, ih]
    · rw [List.filter_cons, decide_eq_false p, if_neg Bool.false_ne_true, List.map_cons, List.sum_cons, ih]
      omega
theorem told_sum (kvs : Row) (h : ∀ n ∈ kvs.map (·.1), 0 ≤ amt kvs n) : ((srt (kvs.map (·.1))).map (amt kvs)).sum = ((told kvs).map (·.2)).sum := by
  rw [sum_pos _ _ fun n hn => h n (mem_srt.mp hn), told_eq, List.map_map]
  rfl
theorem ents_keys (kvs : Row) : ((ents kvs).map fun x => kV x.1) = (kvs.map (·.1)).map V.str := by
  unfold ents
  rw [List.map_map, List.map_map]
  rfl
theorem Gives.imp {te : TE} {σ : L2.St} {H : Hp} {Q R : PR} (h : EvP.Gives te σ H Q) (k : ∀ v H, Q.R v H → R.R v H) : EvP.Gives te σ H R := fun H1 e q z => h H1 e q fun v H2 e2 hv => z v H2 e2 (k _ _ hv)
theorem tup_is {xs : List V} {v : V} {H : Hp} (h : (tup (xs.map is)).R v H) : (tupV xs).R v H := by
  obtain ⟨a, ws, ev, ha, hs⟩ := h
  exact ⟨a, ev, by rw [← all2_is hs]; exact ha⟩
theorem rows_stay {H : Hp} {x : Addr} {o o' : HO} (hx : H x = some o) (ho : ∀ ys, o ≠ .tup ys) : ∀ {ts : Row} {vs : List V}, All2 H (ts.map fun t => tupV [V.str t.1, .int t.2]) vs → All2 (upd H x o') (ts.map fun t => tupV [V.str t.1, .int t.2]) vs
  | [], _, .nil => .nil
  | t :: ts, _, .cons ⟨a, ev, ha⟩ r => .cons ⟨a, ev, by
    rw [upd_ne (fun z => by
      rw [z, hx] at ha
      exact ho _ (Option.some.inj ha))]
    exact ha⟩ (rows_stay hx ho r)
section
variable {P : Program} {w : World} {K : PySem.W.Frag} {mg : Str → Option Value} {base : Heap} {C f fN fA : Addr} {fd fdN fdA : FuncData}
theorem ok_init (F : Fun K "__init__" "Side.__init__" sInit f fd) (S : SideC K C) (T : Blt mg) (T2 : Blt2 mg) (G : FnOk P w K mg base CX0 2 fN fdN ["values"] (spAll K NameV)) (bN : Binds K fdN ["values"] []) (gN : mg "check_names" = some (.ref fN)) (kN : PySem.W.keepIn K (.ref fN) = true)
    (GA : FnOk P w K mg base CX0 3 fA fdA ["values"] (spAll K AmtV)) (bA : Binds K fdA ["values"] []) (gA : mg "check_amounts" = some (.ref fA)) (kA : PySem.W.keepIn K (.ref fA) = true) :
    Mrg.KwOk P w K mg base CX0 4 f "side_itself" (spInit C) := by
  have nd := scInit.nd
  refine Mrg.fn_kw (k := 3) F scInit StX.cxUp_none ⟨_, _, _, _, _, _, rfl⟩ fun cdv A outer s H vs Q E hr h => ?_
  obtain ⟨x, d, dx, kvs, rfl, hx, hd, gd, q⟩ := h
  have hu := hu_of hr
  refine ⟨_, pss_cons (ps_set (i := 2) nd rfl (Or.inl rfl) (pe_callB cr_sortedS (by rfl) T2.sorted (by decide +kernel) (pa_cons (pe_lock (pe_lc (own := [("name", 3)]) (g := gName 3) (tt := tYes) rfl nd (pi_keys (pv 1)) (blkOk_by (N := NI) (sc := defScope sInit) (by decide +kernel))
        (fun _ _ _ _ _ => pg_name (i := 3) nd rfl (Or.inl rfl)) (fun _ _ _ _ _ => pts_nil) (fun _ _ _ _ _ => pe_callTy (T := "str") SkE.call_str_str (by rfl) T.str (by decide +kernel) (pa_cons (pv 3) pa_nil)))) pa_nil)))
    (pss_cons (ps_expr (pe_call G (hr.mono (by decide)) (by rfl) gN kN bN .nil pass0 (pa_cons (pv 2) pa_nil)))
    (pss_cons (ps_expr (pe_call GA hr (by rfl) gA kA bA .nil pass0 (pa_cons (pe_lc (own := [("name", 3)]) (g := gName 3) (tt := tYes) (te := tDGet (tVar 1) (tVar 3)) rfl nd (pi_list (pv 2)) (blkOk_by (N := NI) (sc := defScope sInit) (by decide +kernel))
        (fun _ _ _ _ _ => pg_name (i := 3) nd rfl (Or.inl rfl)) (fun _ _ _ _ _ => pts_nil) (fun _ _ _ _ _ => pe_dget hu (pv 1) (pv 3) (fun _ _ => rfl))) pa_nil)))
    (pss_cons (ps_fld (pv 0) (pe_tupleOf (by rfl) T2.tuple (pe_lc (own := [("name", 3)]) (g := gName 3) (tt := tTest (tOp (rI0 fun i j => .bl (decide (j < i))) (tDGet (tVar 1) (tVar 3)) (tC (.int 0)))) (te := tVar 3) rfl nd (pi_list (pv 2)) (blkOk_by (N := NI) (sc := defScope sInit) (by decide +kernel))
        (fun _ _ _ _ _ => pg_name (i := 3) nd rfl (Or.inl rfl)) (fun _ _ _ _ _ => pts_one (pt_cmpR op_gt (pe_dget hu (pv 1) (pv 3) (fun _ _ => rfl)) pe_int (nomark _))) (fun _ _ _ _ _ => pv 3))) rfl)
    (pss_cons (ps_fld (pv 0) (pe_callB (cr_sum rfl) (by rfl) T2.sum (by decide +kernel) (pa_cons (pe_lc (own := [("name", 3)]) (g := gName 3) (tt := tYes) (te := tDGet (tVar 1) (tVar 3)) rfl nd (pi_list (pv 2)) (blkOk_by (N := NI) (sc := defScope sInit) (by decide +kernel))
        (fun _ _ _ _ _ => pg_name (i := 3) nd rfl (Or.inl rfl)) (fun _ _ _ _ _ => pts_nil) (fun _ _ _ _ _ => pe_dget hu (pv 1) (pv 3) (fun _ _ => rfl))) pa_nil)) rfl)
    (pss_cons (ps_fld (pv 0) (pe_dc (own := [("name", 3)]) (g := gName 3) (tt := tYes) (tk := tVar 3) (tv := tDGet (tVar 1) (tVar 3)) rfl nd (pi_tup (pe_fld (pv 0) rfl)) (blkOk_by (N := NI) (sc := defScope sInit) (by decide +kernel))
        (fun _ _ _ _ _ => pg_name (i := 3) nd rfl (Or.inl rfl)) (fun _ _ _ _ _ => pts_nil) (fun _ _ _ _ _ => pv 3) (fun _ _ _ _ _ => pe_dget hu (pv 1) (pv 3) (fun _ _ => rfl))) rfl)
    (pss_one (ps_fld (pv 0) (pe_tupleOf (by rfl) T2.tuple (pe_lc (own := [("name", 3)]) (g := gName 3) (tt := tYes) (te := tTup (tCons (tVar 3) (tCons (tDGet (tVar 1) (tVar 3)) tNil))) rfl nd (pi_tup (pe_fld (pv 0) rfl)) (blkOk_by (N := NI) (sc := defScope sInit) (by decide +kernel))
        (fun _ _ _ _ _ => pg_name (i := 3) nd rfl (Or.inl rfl)) (fun _ _ _ _ _ => pts_nil) (fun _ _ _ _ _ => pe_tup (pa_cons (pv 3) (pa_cons (pe_dget hu (pv 1) (pv 3) (fun _ _ => rfl)) pa_nil))))) rfl))))))), ?_⟩
  have few : kvs.length ≤ 1000 := Nat.le_trans (Nat.le_of_lt gd.few) (by decide)
  have inn : ∀ {n}, n ∈ srt (kvs.map (·.1)) → n ∈ kvs.map (·.1) := fun h => mem_srt.mp h
  have am0 : ∀ n ∈ kvs.map (·.1), 0 ≤ amt kvs n := fun n hn => gd.am _ (amt_of hn).2
  have len : (srt (kvs.map (·.1))).length = kvs.length := by rw [(srt_perm _).length_eq, List.length_map]
  have lenV : ((srt (kvs.map (·.1))).map V.str).length ≤ 1000 := by rw [List.length_map, len]; exact few
  have lenT : (tns kvs).length ≤ 1000 := Nat.le_trans (List.length_filter_le _ _) (by rw [len]; exact few)
  have nodT : (tns kvs).Nodup := ((srt_perm (kvs.map (·.1))).nodup_iff.mpr gd.nod).sublist List.filter_sublist
  have dx' : d ≠ x := ne_of hd hx (fun z => nomatch z)
  -- d[n]
  have get : ∀ (n : Str), n ∈ kvs.map (·.1) → ∀ (H1 : Hp) (o2 : Option V), H1 d = some (.dK (ents kvs)) → EvP.Gives (tDGet (tVar 1) (tVar 3)) [some (.ref x), some (.ref d), o2, some (.str n)] H1 (is (.int (amt kvs n))) := fun n hn H1 o2 h1 =>
    g_get (k := Sum.inr n) rfl rfl h1 (by rw [valV_ents, (amt_of hn).1]; rfl)
  -- keywords
  refine' EvP.st_set ?h1 ?k1
  case h1 =>
    exact (g_sorted (ss := kvs.map (·.1)) (by
      rw [← ents_keys]
      refine comp_keys (m := 1) (d := d) (kvs := ents kvs) kV rfl hd (by unfold ents; rw [List.length_map]; exact few) (fun _ => rfl) fun y hy H1 Q h => ?_
      obtain ⟨t, _, rfl⟩ := List.mem_map.mp hy
      exact ⟨_, rfl, _, rfl, h⟩) (by rw [List.length_map]; exact gd.few))
  intro v1 H1 e1 ⟨a, ev, ha⟩
  subst ev
  have hd1 := e1 _ _ hd
  -- check_names(keywords)
  refine ⟨_, rfl, a, _, rfl, SqL.of ha, fun y hy => ?_, ?_⟩
  · obtain ⟨n, hn, rfl⟩ := List.mem_map.mp hy
    obtain ⟨t, ht, rfl⟩ := List.mem_map.mp (inn hn)
    exact gd.nm t ht
  -- check_amounts([..])
  dsimp only
  refine' st_call ?h2 ?k2
  case h2 =>
    refine comp_is (fun _ => true) (amtV kvs) (walks_list (EvP.varP rfl ⟨a, rfl, ha⟩)) lenV (fun _ => rfl) (fun _ _ H2 _ Q h => h) (fun y hy _ => ?_)
    obtain ⟨n, hn, rfl⟩ := List.mem_map.mp hy
    exact get n (inn hn) H1 _ hd1
  intro v2 H2 e2 ⟨b, ev, hb⟩
  subst ev
  refine ⟨b, _, rfl, SqL.of hb, fun y hy => ?_, ?_⟩
  · obtain ⟨z, hz, rfl⟩ := List.mem_map.mp hy
    obtain ⟨n, hn, rfl⟩ := List.mem_map.mp (List.mem_filter.mp hz).1
    exact ⟨_, rfl, am0 n (inn hn)⟩
  have e12 := e1.trans e2
  have hd2 := e12 _ _ hd
  have ha2 := e2 _ _ ha
  -- names
  dsimp only
  refine' st_fld ?h3 ?k3
  case h3 =>
    refine g_tupV (comp_is (posV kvs) id (walks_list (EvP.varP rfl ⟨a, rfl, ha2⟩)) lenV (fun _ => rfl) (fun y hy H3 e3 Q h => ?_) (fun y hy _ => EvP.var rfl))
    obtain ⟨m, hm, rfl⟩ := List.mem_map.mp hy
    exact ⟨_, rfl, _, rfl, d, .int (amt kvs m), rfl, (by rw [show some (V.int (amt kvs m)) = valV (ents kvs) (Sum.inr m) by rw [valV_ents, (amt_of (inn hm)).1]; rfl]; exact DGet.k (k := Sum.inr m) (e3 _ _ hd2)), amt kvs m, 0, rfl, rfl, _, rfl, h⟩
  intro v3 H3 e3 ⟨n, ev, hn⟩
  subst ev
  rw [List.map_id, pos_names] at hn
  have e123 := e12.trans e3
  have hx3 := e123 _ _ hx
  have ax : a ≠ x := ne_of (e3 _ _ ha2) hx3 (fun z => nomatch z)
  have nx : n ≠ x := ne_of hn hx3 (fun z => nomatch z)
  refine ⟨x, C, dx, [], rfl, hx3, S.cl, S.nN, by decide, ?_⟩
  have k3 : ∀ b o, H3 b = some o → b ≠ x → upd H3 x (.ins C dx (putF "names" (.ref n) [])) b = some o := fun b o h ne => by
    rw [upd_ne ne]
    exact h
  have f3 := upd_same (H := H3) (a := x) (o := .ins C dx (putF "names" (.ref n) []))
  have hd3 := k3 _ _ (e123 _ _ hd) dx'
  have ha3 := k3 _ _ (e3 _ _ ha2) ax
  have hn3 := k3 _ _ hn nx
  generalize upd H3 x (.ins C dx (putF "names" (.ref n) [])) = G3 at k3 f3 hd3 ha3 hn3 ⊢
  -- total
  refine' st_fld ?h4 ?k4
  case h4 =>
    refine g_sum (ns := (srt (kvs.map (·.1))).map (amt kvs)) ?_
    have eq : (((srt (kvs.map (·.1))).map V.str).filter fun _ => true).map (amtV kvs) = ((srt (kvs.map (·.1))).map (amt kvs)).map V.int := by
      rw [List.filter_eq_self.mpr (fun _ _ => rfl), List.map_map, List.map_map]
      rfl
    rw [← eq]
    refine comp_is (fun _ => true) (amtV kvs) (walks_list (EvP.varP rfl ⟨a, rfl, ha3⟩)) lenV (fun _ => rfl) (fun _ _ H2 _ Q h => h) (fun y hy _ => ?_)
    obtain ⟨n, hn, rfl⟩ := List.mem_map.mp hy
    exact get n (inn hn) G3 _ hd3
  intro v4 H4 e4 ev
  subst ev
  have f4 := e4 _ _ f3
  refine ⟨x, C, dx, _, rfl, f4, S.cl, S.nT, by show 1 < 1000; decide, ?_⟩
  have k4 : ∀ b o, G3 b = some o → b ≠ x → upd H4 x (.ins C dx (putF "total" (.int ((srt (kvs.map (·.1))).map (amt kvs)).sum) (putF "names" (.ref n) []))) b = some o := fun b o h ne => by
    rw [upd_ne ne]
    exact e4 _ _ h
  have f5 := upd_same (H := H4) (a := x) (o := .ins C dx (putF "total" (.int ((srt (kvs.map (·.1))).map (amt kvs)).sum) (putF "names" (.ref n) [])))
  have hd4 := k4 _ _ hd3 dx'
  have hn4 := k4 _ _ hn3 nx
  generalize upd H4 x (.ins C dx (putF "total" (.int ((srt (kvs.map (·.1))).map (amt kvs)).sum) (putF "names" (.ref n) []))) = G4 at k4 f5 hd4 hn4 ⊢
  -- _amounts
  refine' st_fld ?h5 ?k5
  case h5 =>
    exact comp_dict (ss := tns kvs) (fun m => amtV kvs (.str m)) (g_fld rfl f5 S.cl S.nN rfl (⟨n, rfl, hn4⟩ : (tupV ((tns kvs).map V.str)).R (.ref n) G4)) lenT nodT (by show 3 < 4; decide) (fun _ => rfl) (fun m hm => get m (inn (List.mem_filter.mp hm).1) G4 _ hd4)
  intro v5 H5 e5 ⟨g, ev, hg, ng⟩
  subst ev
  rw [← told_ents] at hg
  have newg : H g = none := by
    cases hz : H g with
    | none => rfl
    | some o =>
      exfalso
      by_cases gx : g = x
      · rw [gx, f5] at ng
        cases ng
      · rw [k4 _ _ (k3 _ _ (e123 _ _ hz) gx) gx] at ng
        cases ng
  have f6 := e5 _ _ f5
  have gx : g ≠ x := ne_of hg f6 (fun z => nomatch z)
  refine ⟨x, C, dx, _, rfl, f6, S.cl, S.nA, by show 2 < 1000; decide, ?_⟩
  have k5 : ∀ b o, H5 b = some o → b ≠ x → upd H5 x (.ins C dx (putF "_amounts" (.ref g) (putF "total" (.int ((srt (kvs.map (·.1))).map (amt kvs)).sum) (putF "names" (.ref n) [])))) b = some o := fun b o h ne => by
    rw [upd_ne ne]
    exact h
  have f7 := upd_same (H := H5) (a := x) (o := .ins C dx (putF "_amounts" (.ref g) (putF "total" (.int ((srt (kvs.map (·.1))).map (amt kvs)).sum) (putF "names" (.ref n) []))))
  have hd5 := k5 _ _ (e5 _ _ hd4) dx'
  have hn5 := k5 _ _ (e5 _ _ hn4) nx
  have hg5 := k5 _ _ hg gx
  generalize upd H5 x (.ins C dx (putF "_amounts" (.ref g) (putF "total" (.int ((srt (kvs.map (·.1))).map (amt kvs)).sum) (putF "names" (.ref n) [])))) = G5 at k5 f7 hd5 hn5 hg5 ⊢
  -- _rows
  refine' st_fld1 ?h6 ?k6
  case h6 =>
    refine g_tup (comp (fun _ => true) (rowP kvs) (walks_tup (g_fld rfl f7 S.cl S.nN rfl (⟨n, rfl, hn5⟩ : (tupV ((tns kvs).map V.str)).R (.ref n) G5))) (by rw [List.length_map]; exact lenT) (fun _ => rfl) (fun _ _ H2 _ Q h => h) (fun y hy _ => ?_) (fun y hy => ?_))
    · obtain ⟨m, hm, rfl⟩ := List.mem_map.mp hy
      exact Gives.imp (EvP.tuple (EvP.cons (EvP.var rfl) (EvP.cons (get m (inn (List.mem_filter.mp hm).1) G5 _ hd5) EvP.nil)) (by show 2 ≤ 1000; decide)) fun v H h => tup_is (xs := [.str m, .int (amt kvs m)]) h
    · obtain ⟨m, hm, rfl⟩ := List.mem_map.mp hy
      exact stays_tupV _
  intro v6 H6 e6 ⟨r, rows, ev, hr6, hrows⟩
  subst ev
  rw [List.filter_eq_self.mpr (fun _ _ => rfl), ← told_rows] at hrows
  have f8 := e6 _ _ f7
  have rx : r ≠ x := ne_of hr6 f8 (fun z => nomatch z)
  refine ⟨x, C, dx, _, rfl, f8, S.cl, S.nR, by show 3 < 1000; decide, ?_⟩
  have un : ∀ {b o o'}, H6 b = some o → b ≠ x → upd H6 x o' b = some o := fun h ne => by
    rw [upd_ne ne]
    exact h
  refine q _ (fun b o h ne => un (e6 _ _ (k5 _ _ (e5 _ _ (k4 _ _ (k3 _ _ (e123 _ _ h) ne) ne)) ne)) ne) ⟨dx, n, g, r, rows, ?_, ?_, un (e6 _ _ hg5) gx, un hr6 rx, ?_, newg⟩
  · rw [upd_same, told_sum kvs am0] <;> rfl
  · rw [told_names]
    exact un (e6 _ _ hn5) nx
  · exact rows_stay f8 (fun ys z => nomatch z) hrows
end
end Fk

set_option Elab.async false
set_option linter.all false
set_option maxRecDepth 100000
set_option maxHeartbeats 4000000
/-! list(d.values()). -/
namespace Cm
open PySem PySem.Spec PyProof.Rows L2 EvP
theorem kv_vals : ∀ {kvs : List (Key × V)} {vs : List (Key × Value)}, KV kvs vs → Vals (kvs.map (·.2)) (vs.map (·.2))
  | [], [], _ => .nil
  | _ :: _, _ :: _, .cons a t => .cons a.2 (kv_vals t)
def tListVals (td : TE) : TE := fun σ H Q => td σ H fun x H1 => ∃ (a : Addr) (kvs : List (Key × V)), x = .ref a ∧ H1 a = some (.dK kvs) ∧ ∀ p, H1 p = none → Q (.ref p) (upd H1 p (.lst (kvs.map (·.2))))
theorem pe_listVals {X : Cx} {o : Expr} {td : TE} {p pos apos mpos : Pos} (hc : X.calm = true) (hg : Gl X "list") (hm : X.mg "list" = none) (hd : PE X o td) (hbase : attributeBase o "values" X.env (eval o X.env) = eval o X.env := by rfl) (hline : (apos.endLine == mpos.line) = true := by rfl)
    (hse : starEach [Expr.Call (.Attribute o "values" apos) [] [] mpos] X.env = [(false, eval (Expr.Call (.Attribute o "values" apos) [] [] mpos) X.env)] := by rfl) :
    PE X (.Call (.Name "list" p) [.Call (.Attribute o "values" apos) [] [] mpos] [] pos) (tListVals td) := by
  refine ⟨fun pins s σ H Q I h => ?_⟩
  refine wpAny_Call_Name_kw (ld_blt I hg hm (u := .type "list") (by decide +kernel) ?_ (by decide +kernel) (by decide +kernel))
  rw [hse]
  refine PySem.callWith_type1 (wpAny_Call_method0_late hbase hline (thn (hd.run pins s σ H _ I h) fun v s1 ⟨x, H1, I1, r1, a, kvs, ev, ha, q⟩ => ?_))
  subst ev
  obtain rfl : v = Value.ref a := r1
  obtain ⟨z, sy, vs, rel, dof⟩ := dk_of I1.hok ha
  obtain ⟨ep, dat⟩ := dof.dictAt
  have d2 := dat
  obtain ⟨ob, es, ho, ex, _⟩ := d2
  refine ⟨"dict", "dict.values", F.plainAttrs_dict, F.slot_dict_values, F.type_dict_values, ⟨ob, ho, ex.1⟩, fun b e => ?_, Calls.callWith_builtin rfl (PySem.evalArgs_none ?_)⟩
  · cases e
    exact ⟨ob, ho, ex.2.1⟩
  refine call_meetsIn F.slot_dict_values ⟨ob, ho, ex.1⟩ F.entry_dict_values (F.args_dict_values_1 _) (meets_dict_values (mixKind X.prog X.w) a sy) ⟨⟨vs, dof⟩, ?_⟩
  have k1 : ∀ b u, s1.heap.get? b = some u → (s1.heap.push { cls := .type "dict_values", data := .fields #[.ref a] }).get? b = some u := fun b u e => Heap.get?_push_of_some _ e
  have sz : (s1.heap.push { cls := .type "dict_values", data := .fields #[.ref a] }).objs.size = s1.heap.objs.size + 1 := Heap.size_push _ _
  refine PySem.W.kdl_call (PySem.W.kdl_values (knd := mixKind X.prog X.w) (r := s1.heap.objs.size) (d := a) (kvs := vs) (ep := ep)) (I.ok.hd hc) ⟨⟨_, Heap.get?_push_size _ rfl, rfl, rfl⟩, dat.keep k1⟩ (by rw [← rel.length]; exact z) fun h2 tk acc c2 hk hD hacc => ?_
  have hl : acc.toList = vs.map (·.2) := by
    refine List.ext_getElem? fun j => ?_
    rw [List.getElem?_map, Array.getElem?_toList]
    cases hj : acc[j]? with
    | some v =>
      obtain ⟨k, hk2⟩ := hacc.2 j v hj
      rw [hk2]
      rfl
    | none =>
      have : vs.length ≤ j := by
        rw [← hacc.1]
        exact Array.getElem?_eq_none_iff.mp hj
      rw [List.getElem?_eq_none_iff.mpr this]
      rfl
  have new : ObjOk X.prog X.w (upd H1 (s1.heap.objs.size + 1) (.lst (kvs.map (·.2)))) h2 (s1.heap.objs.size + 1) (.lst (kvs.map (·.2))) :=
    ⟨by rw [List.length_map]; exact z, acc.toList, c2, by rw [hl]; exact kv_vals rel, by rw [Array.toArray_toList, ← sz]; exact hD⟩
  have nn : H1 (s1.heap.objs.size + 1) = none := I1.hok.fresh (Nat.le_succ _)
  refine ⟨.ref (s1.heap.objs.size + 1), upd H1 (s1.heap.objs.size + 1) (.lst (kvs.map (·.2))), I1.laid (t' := tk) (fun b u e => hk b u (k1 b u e)) (Nat.le_succ _) new, ?_, q _ nn⟩
  show Value.ref _ = Value.ref _
  rw [sz]
end Cm

set_option Elab.async false
set_option linter.all false
set_option maxRecDepth 100000
set_option maxHeartbeats 4000000
/-! Side.of. -/
namespace Fk
open PySem PySem.Spec PyProof.Rows L2 EvP Cm
abbrev sOf : Stmt := meth 1
/-- a new side -/
theorem made_of {C : Addr} {kvs : Row} {H : Hp} {Q : VK} (g : Good kvs) (q : ∀ a H', Ex H H' → SideN C H H' a (told kvs) → Q (.ref a) H') : Mrg.MadeW C (spInit C) E0 (kvs.map fun t => (t.1, V.int t.2)) H Q := by
  intro x dx hx hdx ne d hd dn
  have dxx : d ≠ x := fun z => by
    rw [z] at hd
    unfold Mrg.made at hd
    rw [upd_same] at hd
    cases hd
  have en : Mrg.nms (kvs.map fun t => (t.1, V.int t.2)) = ents kvs := by
    unfold Mrg.nms ents
    rw [List.map_map]
    rfl
  have ex : Ex H (upd (Mrg.made H C x dx) d (.dK (Mrg.nms (kvs.map fun t => (t.1, V.int t.2))))) := fun b o hb => by
    have m : Mrg.made H C x dx b = some o := by
      unfold Mrg.made
      rw [upd_ne (ne_of_none hb hx), upd_ne (ne_of_none hb hdx)]
      exact hb
    rw [upd_ne (ne_of_none m hd)]
    exact m
  refine ⟨x, d, dx, kvs, rfl, ?_, ?_, g, fun H' k s => ⟨rfl, q x H' (fun b o hb => k b o ?_ (ne_of_none hb hx)) (SideN.back ex s)⟩⟩
  · rw [upd_ne dxx.symm]
    exact upd_same
  · rw [upd_same, en]
  · have m : Mrg.made H C x dx b = some o := by
      unfold Mrg.made
      rw [upd_ne (ne_of_none hb hx), upd_ne (ne_of_none hb hdx)]
      exact hb
    rw [upd_ne (ne_of_none m hd)]
    exact m
theorem good_kws {kvs : Row} (g : Good kvs) : Mrg.Kws "side_itself" (kvs.map fun t => (t.1, V.int t.2)) where
  nod := by
    rw [List.map_map]
    exact g.nod
  no := fun y hy e => by
    obtain ⟨t, ht, rfl⟩ := List.mem_map.mp hy
    obtain ⟨z, ez, _, hn⟩ := g.nm t ht
    cases ez
    rw [show t.1 = "side_itself" from e] at hn
    revert hn
    decide +kernel
  few := by
    rw [List.length_map, sizeLine_eq]
    have := g.few
    omega
def spOf (C : Addr) : Sp := fun vs H Q _ => ∃ (d : Addr) (kvs : Row), vs = [.ref C, .ref d] ∧ H d = some (.dK (ents kvs)) ∧ Good kvs ∧ ∀ a H', Ex H H' → SideN C H H' a (told kvs) → Q (.ref a) H'
theorem scOf : FnScope ["cls", "amounts"] ["cls", "amounts"] (defScope sOf) := ⟨rfl, rfl, rfl, by decide +kernel, rfl, by decide +kernel, by decide +kernel⟩
section
variable {P : Program} {w : World} {K : PySem.W.Frag} {mg : Str → Option Value} {base : Heap} {C f fN fA fI : Addr} {fd fdN fdA : FuncData}
theorem ok_of (F : Fun K "of" "Side.of" sOf f fd) (T : Blt mg) (hD : mg "dict" = none) (hL : mg "list" = none) (G : FnOk P w K mg base CX0 2 fN fdN ["values"] (spAll K NameV)) (bN : Binds K fdN ["values"] []) (gN : mg "check_names" = some (.ref fN)) (kN : PySem.W.keepIn K (.ref fN) = true)
    (GA : FnOk P w K mg base CX0 3 fA fdA ["values"] (spAll K AmtV)) (bA : Binds K fdA ["values"] []) (gA : mg "check_amounts" = some (.ref fA)) (kA : PySem.W.keepIn K (.ref fA) = true)
    (M : Mk K C fI) (GI : Mrg.KwOk P w K mg base CX0 4 fI "side_itself" (spInit C)) (gS : mg "Side" = some (.ref C)) : FnOk P w K mg base CX0 6 f fd ["cls", "amounts"] (spOf C) := by
  refine F.ok scOf (fun vs H Q E h => ?_) (fun cdv A outer s H vs Q E hr h => ?_)
  · obtain ⟨d, kvs, rfl, _⟩ := h
    rfl
  · obtain ⟨d, kvs, rfl, hd, g, q⟩ := h
    refine ⟨_, pss_cons (ps_if (pt_not (pt_val (pe_callB call_isi (by rfl) T.isi (by decide +kernel) (pa_cons (pv 1) (pa_cons (pe_bltn (v := .ty "dict") (by rfl) hD (by decide +kernel) rfl) pa_nil))))) (pss_one ps_dead) pss_nil)
      (pss_cons (ps_expr (pe_call G (hr.mono (by decide)) (by rfl) gN kN bN .nil pass0 (pa_cons (pe_callTy (T := "list") (call_listD rfl) (by rfl) hL (by decide +kernel) (pa_cons (pv 1) pa_nil)) pa_nil)))
      (pss_cons (ps_expr (pe_call GA (hr.mono (by decide)) (by rfl) gA kA bA .nil pass0 (pa_cons (pe_listVals rfl (by rfl) hL (pv 1)) pa_nil)))
      (pss_one (ps_ret (Mrg.pe_makeD M GI hr (by rfl) gS pass0 (pv 1)))))), ?_⟩
    refine ⟨_, rfl, _, _, _, _, true, rfl, .ty _, .base (.dK hd), kit_ty (by decide +kernel), _, rfl, ?_⟩
    refine ⟨_, rfl, d, ents kvs, rfl, .inl hd, fun p1 h1 => ⟨p1, _, rfl, SqL.of upd_same, fun y hy => ?_, ?_⟩⟩
    · obtain ⟨e, he, rfl⟩ := List.mem_map.mp hy
      obtain ⟨t, ht, rfl⟩ := List.mem_map.mp he
      exact g.nm t ht
    have e1 := Ex.new (H := H) (o := .lst ((ents kvs).map fun kv => kV kv.1)) h1
    refine ⟨_, rfl, d, ents kvs, rfl, e1 _ _ hd, fun p2 h2 => ⟨p2, _, rfl, SqL.of upd_same, fun y hy => ?_, ?_⟩⟩
    · obtain ⟨e, he, rfl⟩ := List.mem_map.mp hy
      obtain ⟨t, ht, rfl⟩ := List.mem_map.mp he
      exact ⟨t.2, rfl, g.am t ht⟩
    have e2 := Ex.new (o := .lst ((ents kvs).map (·.2))) h2
    intro c hc
    have e3 := Ex.new (o := .dK []) hc
    have en : Mrg.nms (kvs.map fun t => (t.1, V.int t.2)) = ents kvs := by
      unfold Mrg.nms ents
      rw [List.map_map]
      rfl
    have hd3 := e3 _ _ (e2 _ _ (e1 _ _ hd))
    have cd : c ≠ d := fun z => by
      rw [z] at hc
      rw [e2 _ _ (e1 _ _ hd)] at hc
      cases hc
    have exd : Ex H (upd (upd (upd (upd H p1 (.lst ((ents kvs).map fun kv => kV kv.1))) p2 (.lst ((ents kvs).map (·.2)))) c (.dK [])) c (.dK (Mrg.nms (kvs.map fun t => (t.1, V.int t.2))))) := fun b o hb => by
      have nb := ne_of_none (e2 _ _ (e1 _ _ hb)) hc
      rw [upd_ne nb, upd_ne nb]
      exact e2 _ _ (e1 _ _ hb)
    refine ⟨_, rfl, upd_same, d, kvs.map fun t => (t.1, V.int t.2), rfl, cd, .inl (by rw [en]; exact hd3), good_kws g, made_of g fun a H' e s => q a H' (fun b o hb => e b o (exd b o hb)) (SideN.back exd s)⟩
end
end Fk

set_option Elab.async false
set_option linter.all false
set_option maxRecDepth 100000
set_option maxHeartbeats 4000000
/-! {**d, k: v}. -/
namespace Mrg
open PySem PySem.Spec PyProof.Rows PySem.W L2
section
variable {prog : Program} {w : World} {κ : Type} [DecidableEq κ] {kd : KeyKind prog w κ} {A : Around} {E : Value → Shared → Prop} {s : Shared}
abbrev nil0 : Obj := { cls := .type "dict", data := .dict #[] }
theorem display_star {T1 Tk Tv : Sem Value} {Q : Value → Shared → Prop}
    (h : wpAny (model prog w) A T1 (fun v s1 => ∃ (o : Addr) (more : List (κ × Value)), v = .ref o ∧ s.heap.objs.size ≠ o ∧ (o == sysModules) = false ∧ s1.heap.DictOf kd s.heap.objs.size [] ∧ s1.heap.DictOf kd o more ∧ more.length < sizeLine ∧
      ∀ h2 : Heap, Heap.SameBut s.heap.objs.size s1.heap h2 → h2.DictOf kd s.heap.objs.size more → s.heap.objs.size ≠ h2.objs.size ∧ (h2.objs.size == sysModules) = false ∧
        wpAny (model prog w) A (evalPairs [(Tk, Tv)]) (fun vs s3 => ∃ (k : κ) (v key : Value), vs = [(key, v)] ∧ Carries kd vs [(k, v)] ∧ s3.heap.DictOf kd h2.objs.size [] ∧ 
          ∀ h3 : Heap, h3.DictOf kd h2.objs.size [(k, v)] → Heap.SameBut h2.objs.size s3.heap h3 → ∃ now : List (κ × Value), h3.DictOf kd s.heap.objs.size now ∧ now.length < sizeLine ∧
            ∀ h4 : Heap, h4.DictOf kd s.heap.objs.size (stored now k v) → Heap.SameBut s.heap.objs.size h3 h4 → Q (.ref s.heap.objs.size) { s3 with heap := h4, toks := s3.toks + 1 }) E { s1 with heap := h2.push nil0 })
      E { s with heap := s.heap.push nil0 }) : wpAny (model prog w) A (dictDisplay [(none, T1), (some Tk, Tv)]) Q E s := by
  unfold dictDisplay
  show wpAny _ _ (forIn [((none : Option (Sem Value)), T1), (some Tk, Tv)] ((none, []) : Option Addr × List (Sem Value × Sem Value)) _ >>= _) _ _ _
  refine wpAny_bind ?_
  rw [List.forIn_cons]
  refine wpAny_bind ?_
  show wpAny _ _ ((pure (none : Option Addr) : Sem (Option Addr)) >>= _) _ _ _
  refine wpAny_bind (wpAny_pure ?_)
  show wpAny _ _ (alloc nil0 >>= _) _ _ _
  refine wpAny_bind (wpAny_alloc (wpAny_bind (wpAny_holding (wpAny_mono h (fun v s1 z => ?_) fun _ _ y => y))))
  obtain ⟨o, more, rfl, ne, lo, hd, ho, hz, q⟩ := z
  have em : merged [] more = more := merged_nil_of_nodup _ (by
    obtain ⟨_, _, _, _, _, _, _, _, nod⟩ := ho
    exact nod)
  refine wpAny_bind (wpAny_onRaise (wpAny_tryCatch (wpAny_onRaise (wpAny_holding (merge_at (kd := kd) ne lo hd ho (fun y => nomatch y) (by rw [List.length_nil]; omega) fun h2 d2 o2 sb => ?_)))))
  rw [em] at d2
  obtain ⟨ne2, lo2, q2⟩ := q h2 sb d2
  refine wpAny_pure ?_
  show wpAny _ _ (forIn [(some Tk, Tv)] ((some s.heap.objs.size, []) : Option Addr × List (Sem Value × Sem Value)) _) _ _ _
  rw [List.forIn_cons]
  refine wpAny_bind ?_
  show wpAny _ _ (pure (ForInStep.yield ((some s.heap.objs.size, [(Tk, Tv)]) : Option Addr × List (Sem Value × Sem Value))) : Sem (ForInStep (Option Addr × List (Sem Value × Sem Value)))) _ _ _
  refine wpAny_pure ?_
  show wpAny _ _ (forIn ([] : List (Option (Sem Value) × Sem Value)) _ _) _ _ _
  rw [List.forIn_nil]
  refine wpAny_pure ?_
  refine wpAny_bind ?_
  show wpAny _ _ (holding [.ref s.heap.objs.size] (subDict [(Tk, Tv)]) >>= _) _ _ _
  refine wpAny_bind (wpAny_holding (wpAny_subDict (knd := kd) (by show 1 ≤ 15; decide) (wpAny_mono q2 (fun vs s3 z => ?_) fun _ _ y => y)))
  obtain ⟨k, v, key, rfl, cr, sd, q3⟩ := z
  refine ⟨[(k, v)], cr, sd, fun h3 d3 sb3 => ?_⟩
  obtain ⟨now, d3', hz3, q4⟩ := q3 h3 d3 sb3
  refine wpAny_bind (wpAny_onRaise (wpAny_holding (merge_at (kd := kd) ne2 lo2 d3' d3 (fun y => nomatch y) (by show now.length + 1 ≤ sizeLine; omega) fun h4 d4 o4 sb4 => wpAny_pure (wpAny_pure (q4 h4 d4 sb4)))))
end
section
variable {X : Cx} {pos : Pos} {e kx vx : Expr} {te tk tv : TE}
def tDispD (te tk tv : TE) : TE := fun σ H Q => ∀ g, H g = none → te σ (upd H g (.dK [])) fun x H1 => H1 g = some (.dK []) ∧ ∃ (o : Addr) (kvs : List (Key × V)), x = .ref o ∧ g ≠ o ∧ Rd H1 o (.dK kvs) ∧ kvs.length < sizeLine ∧
  ∀ g2, upd H1 g (.dK kvs) g2 = none → g ≠ g2 → tPairs [(tk, tv)] σ (upd (upd H1 g (.dK kvs)) g2 (.dK [])) fun ps H4 => H4 g2 = some (.dK []) ∧ H4 g = some (.dK kvs) ∧ ∃ k z, ps = [(kV k, z)] ∧ Q (.ref g) (upd (upd H4 g2 (.dK [(k, z)])) g (.dK (putK kvs k z)))
theorem pe_dispD (he : PE X e te) (hk : PPs X pos [some kx] [vx] [(tk, tv)]) : PE X (.Dict [none, some kx] [e, vx] pos) (tDispD te tk tv) := by
  refine ⟨fun pins s σ H Q I h => ?_⟩
  rw [arm_eval_Dict]
  refine wpAny_bind (wpAny_standAt ?_)
  show wpAny _ _ (dictDisplay [(none, (do let v ← eval e X.env; standAt pos; pure v)), (some (eval kx X.env), (do let v ← eval vx X.env; standAt pos; pure v))]) _ _ _
  refine display_star (kd := mixKind X.prog X.w) ?_
  have I0 : Inv X pins σ (upd H s.heap.objs.size (.dK [])) { s with heap := s.heap.push nil0 } :=
    I.laid (a := s.heap.objs.size) (o := .dK []) (t' := s.toks) (fun _ _ q => Heap.get?_push_of_some _ q) (Nat.le_refl _) (dk_empty s.heap I.big)
  refine wpAny_bind (thn (he.run pins _ σ _ _ I0 (h _ (I.hok.fresh (Nat.le_refl _)))) fun v s1 ⟨y, H1, I1, ry, hgd, o, kvs, ey, ne, rd, hz, hq⟩ => wpAny_bind (wpAny_standAt (wpAny_pure ?_)))
  subst ey
  obtain rfl : v = Value.ref o := ry
  obtain ⟨z, lo, vs, rel, dd⟩ := dk_rd I1.hok rd
  obtain ⟨z0, lo0, vs0, rel0, dd0⟩ := dk_of I1.hok hgd
  have e0 : vs0 = [] := by
    cases rel0
    rfl
  subst e0
  refine ⟨o, vs, rfl, ne, lo, dd0, dd, by rw [← rel.length]; exact hz, fun h2 sb d2 => ?_⟩
  have I2 : Inv X pins σ (upd H1 s.heap.objs.size (.dK kvs)) { s1 with heap := h2 } := d_write (t' := s1.toks) I1 (by rw [hgd]; exact True.intro) sb (let ⟨q, _, _, hq, _⟩ := d2; ⟨q, hq⟩) (dk_new z lo0 rel d2)
  have big2 : sysModules < h2.objs.size := I2.big
  have lt2 : s.heap.objs.size < h2.objs.size := by
    obtain ⟨q, _, _, hq, _⟩ := d2
    exact Heap.lt_size hq
  refine ⟨Nat.ne_of_lt lt2, by simpa using Nat.ne_of_gt big2, ?_⟩
  have I3 : Inv X pins σ (upd (upd H1 s.heap.objs.size (.dK kvs)) h2.objs.size (.dK [])) { s1 with heap := h2.push nil0 } :=
    I2.laid (a := h2.objs.size) (o := .dK []) (t' := s1.toks) (fun _ _ q => Heap.get?_push_of_some _ q) (Nat.le_refl _) (dk_empty h2 big2)
  have hn2 : (upd H1 s.heap.objs.size (.dK kvs)) h2.objs.size = none := I2.hok.fresh (Nat.le_refl _)
  refine thn (hk.run pins _ σ _ _ I3 (hq _ hn2 (Nat.ne_of_lt lt2))) fun ws s3 ⟨ps, H4, I4, rps, h42, h41, k, z, eps, q⟩ => ?_
  subst eps
  cases rps with
  | cons a t =>
    cases t
    obtain ⟨rk, rv⟩ := a
    obtain ⟨z4, lo4, vs4, rel4, dd4⟩ := dk_of I4.hok h42
    have e4 : vs4 = [] := by
      cases rel4
      rfl
    subst e4
    refine ⟨k, _, _, rfl, ⟨kV_is rk, rfl, True.intro⟩, dd4, fun h3 d3 sb3 => ?_⟩
    have I5 : Inv X pins σ (upd H4 h2.objs.size (.dK [(k, z)])) { s3 with heap := h3 } := d_write (t' := s3.toks) I4 (by rw [h42]; exact True.intro) sb3 (let ⟨q, _, _, hq, _⟩ := d3; ⟨q, hq⟩)
      (dk_new (by show 1 ≤ sizeLine; decide) lo4 (.cons ⟨rfl, rv⟩ .nil) d3)
    have h51 : (upd H4 h2.objs.size (.dK [(k, z)])) s.heap.objs.size = some (.dK kvs) := by
      rw [upd_ne (Nat.ne_of_lt lt2)]
      exact h41
    obtain ⟨z5, lo5, vs5, rel5, dd5⟩ := dk_of I5.hok h51
    refine ⟨vs5, dd5, by rw [← rel5.length]; exact hz, fun h4 d4 sb4 => ⟨.ref s.heap.objs.size, _, ?_, rfl, q⟩⟩
    exact d_write (s := { s3 with heap := h3 }) (t' := s3.toks + 1) I5 (by rw [h51]; exact True.intro) sb4 (let ⟨q, _, _, hq, _⟩ := d4; ⟨q, hq⟩) (dk_new (by have := length_putK kvs k z; omega) lo5 (rel5.put k rv) d4)
end
end Mrg

set_option Elab.async false
set_option linter.all false
set_option maxRecDepth 100000
set_option maxHeartbeats 4000000
/-! Side's smaller methods. -/
namespace Fk
open PySem PySem.Spec PyProof.Rows L2 EvP Cm
abbrev sLen : Stmt := meth 2
abbrev sHas : Stmt := meth 4
abbrev sItem : Stmt := meth 5
abbrev sWith : Stmt := meth 17
/-- with another amount of a name -/
def putR (ts : Row) (n : Str) (m : Int) : Row := if (ts.any fun t => decide (t.1 = n)) = true then ts.map fun t => if t.1 = n then (t.1, m) else t else ts ++ [(n, m)]
theorem ents_put (ts : Row) (n : Str) (m : Int) : ents (putR ts n m) = putK (ents ts) (Sum.inr n) (.int m) := by
  have an : ((ents ts).any fun kv => decide (kv.1 = (Sum.inr n : Key))) = ts.any fun t => decide (t.1 = n) := by
    unfold ents
    rw [List.any_map]
    refine congrArg (fun p => ts.any p) (funext fun t => ?_)
    by_cases h : t.1 = n
    · simp [h]
    · have : ¬ (Sum.inr t.1 : Key) = Sum.inr n := fun z => h (Sum.inr.inj z)
      simp [h, this]
  unfold putR putK
  rw [an]
  by_cases h : (ts.any fun t => decide (t.1 = n)) = true
  · rw [if_pos h, if_pos h]
    unfold ents
    rw [List.map_map, List.map_map]
    refine List.map_congr_left fun t _ => ?_
    by_cases e : t.1 = n
    · simp [e]
    · have : ¬ (Sum.inr t.1 : Key) = Sum.inr n := fun z => e (Sum.inr.inj z)
      simp [e, this]
  · rw [if_neg h, if_neg h]
    unfold ents
    rw [List.map_append]
    rfl
theorem Good.put {ts : Row} {n : Str} {m : Int} (g : Good ts) (hn : NameV (.str n)) (hm : 0 ≤ m) (hz : ts.length < 63) : Good (putR ts n m) := by
  unfold putR
  by_cases h : (ts.any fun t => decide (t.1 = n)) = true
  · rw [if_pos h]
    have k : (ts.map fun t => if t.1 = n then (t.1, m) else t).map (·.1) = ts.map (·.1) := by
      rw [List.map_map]
      refine List.map_congr_left fun t _ => ?_
      show (if t.1 = n then (t.1, m) else t).1 = t.1
      split <;> rfl
    refine ⟨by rw [k]; exact g.nod, fun y hy => ?_, fun y hy => ?_, by rw [List.length_map]; exact g.few⟩
    · obtain ⟨t, ht, rfl⟩ := List.mem_map.mp hy
      by_cases e : t.1 = n
      · rw [if_pos e]
        exact g.nm t ht
      · rw [if_neg e]
        exact g.nm t ht
    · obtain ⟨t, ht, rfl⟩ := List.mem_map.mp hy
      by_cases e : t.1 = n
      · rw [if_pos e]
        exact hm
      · rw [if_neg e]
        exact g.am t ht
  · rw [if_neg h]
    have no : n ∉ ts.map (·.1) := fun z => by
      obtain ⟨t, ht, e⟩ := List.mem_map.mp z
      exact h (List.any_eq_true.mpr ⟨t, ht, decide_eq_true e⟩)
    refine ⟨?_, fun y hy => ?_, fun y hy => ?_, by rw [List.length_append]; show ts.length + 1 < 64; omega⟩
    · rw [List.map_append, List.nodup_append]
      refine ⟨g.nod, by simp, fun a ha b hb => ?_⟩
      obtain rfl : b = n := by simpa using hb
      intro e
      exact no (e ▸ ha)
    · rcases List.mem_append.mp hy with hy | hy
      · exact g.nm y hy
      · rw [List.mem_singleton.mp hy]
        exact hn
    · rcases List.mem_append.mp hy with hy | hy
      · exact g.am y hy
      · rw [List.mem_singleton.mp hy]
        exact hm
def spLen (C : Addr) : Sp := fun vs H Q _ => ∃ a ts, vs = [.ref a] ∧ SideAt C H a ts ∧ Q (.int ts.length) H
/-- x in side, x no object -/
def spHas (C : Addr) : Sp := fun vs H Q _ => ∃ a ts x, vs = [.ref a, x] ∧ SideAt C H a ts ∧ flatV x = true ∧ Q (.bl (inV x (ts.map fun t => V.str t.1))) H
/-- side[x] -/
def spItem (K : PySem.W.Frag) (C : Addr) : Sp := fun vs H Q _ => ∃ a ts x, vs = [.ref a, x] ∧ SideAt C H a ts ∧
  ((∃ z, x = .str z ∧ z.length ≤ sizeLine ∧ Q (.int (if nameB z then amt ts z else 0)) H) ∨ (∃ t, TyX K H x (.type t) ∧ kitB t "str" = some false ∧ Q (.int 0) H))
def spWith (C : Addr) : Sp := fun vs H Q _ => ∃ a ts n m, vs = [.ref a, .str n, .int m] ∧ SideAt C H a ts ∧ Good ts ∧ NameV (.str n) ∧ 0 ≤ m ∧ ts.length < 63 ∧ ∀ b H', Ex H H' → SideAt C H' b (told (putR ts n m)) → Q (.ref b) H'
theorem scLen : FnScope ["self"] ["self"] (defScope sLen) := ⟨rfl, rfl, rfl, by decide +kernel, rfl, by decide +kernel, by decide +kernel⟩
theorem scHas : FnScope ["self", "x"] ["self", "x"] (defScope sHas) := ⟨rfl, rfl, rfl, by decide +kernel, rfl, by decide +kernel, by decide +kernel⟩
theorem scItem : FnScope ["self", "at"] ["self", "at"] (defScope sItem) := ⟨rfl, rfl, rfl, by decide +kernel, rfl, by decide +kernel, by decide +kernel⟩
theorem scWith : FnScope ["self", "name", "amount"] ["self", "name", "amount"] (defScope sWith) := ⟨rfl, rfl, rfl, by decide +kernel, rfl, by decide +kernel, by decide +kernel⟩
section
variable {P : Program} {w : World} {K : PySem.W.Frag} {mg : Str → Option Value} {base : Heap} {C f fN : Addr} {fd fdN : FuncData}
theorem ok_len (F : Fun K "__len__" "Side.__len__" sLen f fd) (S : SideC K C) (T : Blt mg) : FnOk P w K mg base CX0 1 f fd ["self"] (spLen C) := by
  refine F.ok scLen (fun vs H Q E h => ?_) (fun cdv A outer s H vs Q E hr h => ?_)
  · obtain ⟨a, ts, rfl, _⟩ := h
    rfl
  · obtain ⟨a, ts, rfl, ⟨dx, n, d, r, rows, h1, h2, h3, h4, h5⟩, q⟩ := h
    refine ⟨_, pss_one (ps_ret (pe_callB call_len_seq (by rfl) T.len PySem.boot_len (pa_cons (pe_fld (pv 0) rfl) pa_nil))), ?_⟩
    refine ⟨_, rfl, a, C, dx, _, _, rfl, h1, S.cl, S.nN, rfl, n, _, rfl, .inr (SqT.of h2), ?_⟩
    rw [List.length_map]
    exact q
theorem ok_has (F : Fun K "__contains__" "Side.__contains__" sHas f fd) (S : SideC K C) : FnOk P w K mg base CX0 1 f fd ["self", "x"] (spHas C) := by
  refine F.ok scHas (fun vs H Q E h => ?_) (fun cdv A outer s H vs Q E hr h => ?_)
  · obtain ⟨a, ts, x, rfl, _⟩ := h
    rfl
  · obtain ⟨a, ts, x, rfl, ⟨dx, n, d, r, rows, h1, h2, h3, h4, h5⟩, fx, q⟩ := h
    refine ⟨_, pss_one (ps_ret (pe_cmpR op_in_seq (pv 1) (pe_fld (pv 0) rfl) (by rfl))), ?_⟩
    refine ⟨_, rfl, _, rfl, a, C, dx, _, _, rfl, h1, S.cl, S.nN, rfl, n, _, rfl, .inr (SqT.of h2), fx, ?_, q⟩
    rw [List.all_map]
    exact List.all_eq_true.mpr fun _ _ => rfl
theorem ok_item (F : Fun K "__getitem__" "Side.__getitem__" sItem f fd) (S : SideC K C) (G : FnOk P w K mg base CX0 1 fN fdN ["value"] (spName K)) (b : Binds K fdN ["value"] []) (gN : mg "is_name" = some (.ref fN)) (kN : PySem.W.keepIn K (.ref fN) = true) :
    FnOk P w K mg base CX0 2 f fd ["self", "at"] (spItem K C) := by
  refine F.ok scItem (fun vs H Q E h => ?_) (fun cdv A outer s H vs Q E hr h => ?_)
  · obtain ⟨a, ts, x, rfl, _⟩ := h
    rfl
  · obtain ⟨a, ts, x, rfl, ⟨dx, n, d, r, rows, h1, h2, h3, h4, h5⟩, q⟩ := h
    refine ⟨_, pss_cons (ps_if (pt_not (pt_val (pe_call G hr (by rfl) gN kN b .nil pass0 (pa_cons (pv 1) pa_nil)))) (pss_one (ps_ret pe_int)) pss_nil)
      (pss_one (ps_ret (pe_dget2 (hu_of hr) (pe_fld (pv 0) rfl) (pv 1) pe_int ⟨rfl, rfl, rfl, rfl⟩))), ?_⟩
    rcases q with ⟨z, rfl, hz, q⟩ | ⟨t, ty, e, q⟩
    · refine ⟨_, rfl, _, rfl, .inl ⟨z, rfl, hz, _, rfl, ?_⟩⟩
      cases hb : nameB z with
      | false =>
        rw [hb] at q
        exact q
      | true =>
        rw [hb] at q
        refine ⟨_, rfl, a, C, dx, _, _, rfl, h1, S.cl, S.nA, rfl, d, rfl, .inl ⟨_, .inl h3⟩, _, rfl, _, DGet.k (k := Sum.inr z) h3, ?_⟩
        rw [valV_ents]
        unfold amt at q
        cases hl : ts.lookup z with
        | none =>
          rw [hl] at q
          exact q
        | some m =>
          rw [hl] at q
          exact q
    · exact ⟨_, rfl, _, rfl, .inr ⟨t, ty, e, _, rfl, q⟩⟩
end
end Fk

set_option Elab.async false
set_option linter.all false
set_option maxRecDepth 100000
set_option maxHeartbeats 4000000
/-! Side.with_amount. -/
namespace Fk
open PySem PySem.Spec PyProof.Rows L2 EvP Cm
/-- a def that keeps a promise, by position alone -/
theorem FnOk.toR {P : Program} {w : World} {K : PySem.W.Frag} {mg : Str → Option Value} {base : Heap} {CX : CXT} {k : Nat} {f : Addr} {fd : FuncData} {ps : List Str} {sp : Sp} (F : FnOk P w K mg base CX k f fd ps sp) (b : Binds K fd ps []) : FnR P w K mg base CX k f sp := by
  intro A outer s H us vs Q E hr e0 r h
  have n : (us ++ []).length = ps.length := by rw [List.append_nil, ← r.length]; exact F.len _ _ _ _ h
  exact F.run A outer s H ⟨us, []⟩ (us ++ []) vs Q E hr e0 (b s us (e0.mod.kin.keeps fun b o e => (e0.bs b o e).1) n) (by rw [List.append_nil]; exact r) h
end Fk

set_option Elab.async false
set_option linter.all false
set_option maxRecDepth 100000
set_option maxHeartbeats 4000000
/-! Side.__str__. -/
namespace Cm
open PySem PySem.Spec PyProof.Rows L2 EvP
section
variable {K : PySem.W.Frag} {σ : L2.St} {H : Hp} {te : TE} {xs : List V} {vs : List Nat} {wi : TI} {g : TG}
/-- [e for target in xs], place by place -/
theorem compP {Ps : List PR} (hw : Walks wi σ H xs) (hz : xs.length ≤ 1000) (hl : Ps.length = xs.length)
    (step : ∀ (j : Nat) (x : V) (P : PR), xs[j]? = some x → Ps[j]? = some P → ∃ σ2 : L2.St, wipe σ2 vs = wipe σ vs ∧ (∀ H1, Ex H H1 → ∀ Q : L2.St → Hp → Prop, Q σ2 H1 → g x (wipe σ vs) H1 Q) ∧ EvP.Gives te σ2 H P) (st : ∀ P ∈ Ps, Stays P) :
    EvP.Gives (tLc wi g tYes te vs) σ H (lst H Ps) := fun H1 e1 Q q => by
  refine hw H1 e1 _ fun J H2 e2 ⟨G, w, gd⟩ D hD => ?_
  refine lc_it w (fun j H' => ∃ acc, H' D = some (.lst acc) ∧ Ex H2 H' ∧ All2 H' (Ps.take j) acc) ⟨[], upd_same, Ex.new hD, .nil⟩ (fun j H' _ ⟨_, _, e3, _⟩ => gd _ e3) (fun j x H' H'' hj ⟨acc, a1, a2, a3⟩ y => ?_) (fun H' ⟨acc, a1, a2, a3⟩ => ?_)
  · obtain ⟨rfl, hx⟩ := y
    have eH := (e1.trans e2).trans a2
    have hP : Ps[j]? = some (Ps[j]'(by omega)) := List.getElem?_eq_getElem _
    obtain ⟨σ2, s1, s2, s3⟩ := step j x _ hx hP
    refine s2 _ eH _ ⟨s1, ?_⟩
    refine s3 _ eH _ fun v H4 e4 hv => ⟨acc, e4 _ _ a1, ?_, acc ++ [v], upd_same, fun b o hb => ?_, ?_⟩
    · have := a3.length
      rw [List.length_take] at this
      rw [sizeLine_eq]
      omega
    · rw [upd_ne (ne_of_none hb hD)]
      exact e4 _ _ (a2 _ _ hb)
    · rw [List.take_add_one, hP]
      refine all2_stays (e4 _ _ a1) (fun P hQ => ?_) (all2_snoc (a3.ex e4) hv)
      rcases List.mem_append.mp hQ with hQ | hQ
      · exact st P (List.mem_of_mem_take hQ)
      · rw [List.mem_singleton.mp hQ]
        exact st _ (List.getElem_mem _)
  · rw [← hl, List.take_length] at a3
    exact q _ _ (e2.trans a2) ⟨D, acc, rfl, a1, (e1.trans e2).back hD, a3⟩
theorem walks_tupA {Ps : List PR} {tl : TE} {zs : List V} (h : EvP.Gives tl σ H (tupV zs)) : Walks (iTup K tl) σ H zs := walks_tup h
end
end Cm
namespace Fk
open PySem PySem.Spec PyProof.Rows L2 EvP Cm
abbrev sStr : Stmt := meth 18
theorem st_retJoin {σ : L2.St} {H : Hp} {D : Ends} {P : PR} {te : TE} {a : Str} {r : V → List V → Hp → VK → Prop} (h : EvP.Gives te σ H P) (k : ∀ v H1, Ex H H1 → P.R v H1 → r (.str a) [v] H1 D.rt) : tRet (tM1 r (tC (.str a)) te) D σ H := ⟨⟨a, rfl⟩, h H (Ex.refl H) _ k⟩
/-- a name and its amount, written -/
def wordT (t : Str × Int) : Str := Str.empty ++ t.1 ++ " " ++ numT t.2
def lineT (ts : Row) : Str := if ts.isEmpty = true then "-" else Txt.join " " (ts.map wordT)
/-- amounts that are written at once -/
structure Small (ts : Row) : Prop where
  nm : ∀ t ∈ ts, NameV (.str t.1)
  lo : ∀ t ∈ ts, 0 ≤ t.2
  hi : ∀ t ∈ ts, (Dg.dl t.2.toNat).length ≤ 10000
  few : ts.length < 64
theorem name_len {x : Str} (h : nameB x = true) : x.length ≤ 8 := by
  unfold nameB at h
  simp only [Bool.and_eq_true, decide_eq_true_eq] at h
  omega
theorem word_len {t : Str × Int} (hn : NameV (.str t.1)) (lo : 0 ≤ t.2) (hi : (Dg.dl t.2.toNat).length ≤ 10000) : (Str.empty ++ t.1).length ≤ 8 ∧ (Str.empty ++ t.1 ++ " ").length ≤ 9 ∧ (wordT t).length ≤ 10009 := by
  obtain ⟨z, ez, _, hb⟩ := hn
  cases ez
  have l1 := name_len hb
  have l2 : (numT t.2).length ≤ 10000 := by
    rw [← Dg.len_cps, Dg.numT_cps lo]
    exact hi
  have a0 : (Str.empty ++ t.1).length = t.1.length := by
    rw [Str.length_append]
    exact Nat.zero_add _
  have a1 : (Str.empty ++ t.1 ++ " ").length = t.1.length + 1 := by
    rw [Str.length_append, a0]
    rfl
  have a2 : (wordT t).length = t.1.length + 1 + (numT t.2).length := by
    unfold wordT
    rw [Str.length_append, a1]
  refine ⟨by omega, by omega, ?_⟩
  rw [a2]
  have : (numT t.2).length ≤ 10000 := l2
  omega
def spStr (C : Addr) : Sp := fun vs H Q _ => ∃ a ts, vs = [.ref a] ∧ SideAt C H a ts ∧ Small ts ∧ ∀ H', Ex H H' → Q (.str (lineT ts)) H'
theorem words_len : ∀ {ts : Row}, (∀ t ∈ ts, (wordT t).length ≤ 10009) → ((ts.map wordT).map (·.length)).sum ≤ ts.length * 10009
  | [], _ => Nat.le_refl _
  | t :: r, h => by
    have ih := words_len fun y hy => h y (.tail _ hy)
    have h0 := h t (.head _)
    rw [List.map_cons, List.map_cons, List.sum_cons, List.length_cons]
    omega
theorem scStr : FnScope ["self", "name", "amount"] ["self"] (defScope sStr) := ⟨rfl, rfl, rfl, by decide +kernel, rfl, by decide +kernel, by decide +kernel⟩
section
variable {P : Program} {w : World} {K : PySem.W.Frag} {mg : Str → Option Value} {base : Heap} {C f fN : Addr} {fd fdN : FuncData}
theorem ok_str (F : Fun K "__str__" "Side.__str__" sStr f fd) (S : SideC K C) (G : FnOk P w K mg base CX0 1 fN fdN ["number"] spNum) (b : Binds K fdN ["number"] []) (gN : mg "number_text" = some (.ref fN)) (kN : PySem.W.keepIn K (.ref fN) = true) : FnOk P w K mg base CX0 2 f fd ["self"] (spStr C) := by
  have nd := scStr.nd
  refine F.ok scStr (fun vs H Q E h => ?_) (fun cdv A outer s H vs Q E hr h => ?_)
  · obtain ⟨a, ts, rfl, _⟩ := h
    rfl
  · obtain ⟨a, ts, rfl, ⟨dx, n, d, r, rows, h1, h2, h3, h4, h5⟩, sm, q⟩ := h
    refine ⟨_, pss_cons (ps_if (pt_not (pt_truth (pe_fld (pv 0) rfl) (by intro _; rfl))) (pss_one (ps_ret pe_str)) pss_nil)
      (pss_one (ps_ret (pe_join pe_str (pe_lc (own := [("name", 1), ("amount", 2)]) (g := gTup K 2 (gCons (gName 1) (gCons (gName 2) gNil))) (tt := tYes) rfl nd (pi_tup (pe_fld (pv 0) rfl)) (blkOk_by (N := ["self", "name", "amount"]) (sc := defScope sStr) (by decide +kernel))
        (fun _ _ _ _ _ => by exact pg_tup rfl (pgs_cons (pg_name (i := 1) nd rfl (Or.inl rfl)) (pgs_cons (pg_name (i := 2) nd rfl (Or.inl rfl)) pgs_nil))) (fun _ _ _ _ _ => pts_nil)
        (fun _ _ _ _ _ => pe_joined (.cons (pe_fmt (pv 1)) (.cons pe_str (.cons (pe_fmt (pe_call G hr (by rfl) gN kN b .nil pass0 (pa_cons (pv 2) pa_nil))) .nil)))))))), ?_⟩
    refine ⟨_, rfl, a, C, dx, _, _, rfl, h1, S.cl, S.nN, rfl, _, .inr (.inl ⟨_, SqT.of h2, rfl⟩), ?_⟩
    cases ts with
    | nil => exact q H (Ex.refl H)
    | cons t0 tr =>
      generalize hts : t0 :: tr = ts at *
      have ne : ts.isEmpty = false := by
        rw [← hts]
        rfl
      have line : lineT ts = Txt.join " " (ts.map wordT) := by
        unfold lineT
        rw [ne, if_neg Bool.false_ne_true]
      have emp : (ts.map fun t => V.str t.1).isEmpty = false := by
        rw [← hts]
        rfl
      rw [emp]
      have rl : rows.length = ts.length := by
        have := h5.length
        rw [List.length_map] at this
        exact this
      rw [if_neg (by decide)]
      dsimp only [tNext]
      refine' st_retJoin ?h1 ?k1
      case h1 =>
        refine compP (Ps := ts.map fun t => is (.str (wordT t))) (walks_tup (g_fld rfl h1 S.cl S.nR rfl (⟨r, rfl, h4⟩ : (tupV rows).R (.ref r) H))) (by rw [rl]; have := sm.few; omega) (by rw [List.length_map, rl]) (fun j x P hx hP => ?_) (fun P hP => ?_)
        · rw [List.getElem?_map] at hP
          obtain ⟨t, ht, rfl⟩ := Option.map_eq_some_iff.mp hP
          have mt := List.mem_of_getElem? ht
          obtain ⟨v, hv, p, ev, hp⟩ := h5.get (i := j) (P := tupV [.str t.1, .int t.2]) (by rw [List.getElem?_map, ht]; rfl)
          have exv : x = v := Option.some.inj (hx.symm.trans hv)
          subst exv
          subst ev
          obtain ⟨l1, l2, l3⟩ := word_len (sm.nm t mt) (sm.lo t mt) (sm.hi t mt)
          have big : ∀ {k}, k ≤ 10009 → k ≤ sizeLine := fun h => by
            rw [sizeLine_eq]
            omega
          have ln : t.1.length ≤ sizeLine := by
            obtain ⟨z, ez, hz, _⟩ := sm.nm t mt
            cases ez
            exact hz
          have lm : (numT t.2).length ≤ sizeLine := by
            rw [← Dg.len_cps, Dg.numT_cps (sm.lo t mt)]
            exact big (Nat.le_trans (sm.hi t mt) (by decide))
          refine ⟨[some (.ref a), some (.str t.1), some (.int t.2)], rfl, fun H1 e Q k => ⟨p, _, rfl, SqT.of (e _ _ hp), rfl, _, _, rfl, _, _, rfl, rfl, k⟩, fun H1 e Q k => ?_⟩
          exact ⟨_, rfl, .inl ⟨t.1, rfl, ln, t.1, rfl, big (by omega), " ", rfl, big (by omega), _, rfl, t.2, rfl, sm.lo t mt, sm.hi t mt, fun H' e' => .inl ⟨numT t.2, rfl, lm, numT t.2, rfl, big l3, k _ _ e' rfl⟩⟩⟩
        · obtain ⟨t, _, rfl⟩ := List.mem_map.mp hP
          exact stays_is _
      intro v H1 e1 ⟨D, ws, ev, hD, _, hs⟩
      subst ev
      have ews : ws = (ts.map wordT).map V.str := by
        rw [List.map_map]
        refine all2_is (H := H1) ?_
        rw [List.map_map]
        exact hs
      subst ews
      refine ⟨" ", D, ts.map wordT, rfl, rfl, .inl (SqL.of hD), ?_, by rw [← line]; exact q _ e1⟩
      have w := words_len (ts := ts) fun t mt => (word_len (sm.nm t mt) (sm.lo t mt) (sm.hi t mt)).2.2
      have f := sm.few
      rw [List.length_map]
      show _ + ts.length * 1 ≤ 16777216
      omega
end
end Fk

set_option Elab.async false
set_option linter.all false
set_option maxRecDepth 100000
set_option maxHeartbeats 4000000
/-! Words of a text, and what of them is a side's text: no Python here. -/
namespace Wd
open PySem PySem.NumText Fk
open Dg hiding numT
abbrev sp : Str := " "
/-- a text's words -/
abbrev ws (x : Str) : List Str := Txt.split x sp
abbrev tl (x : Str) : List Nat := x.cps.toList
theorem ws_spl (x : Str) : (ws x).map tl = TL.spl [32] 0 [] (tl x) := TL.split_spl x sp (by decide) (TL.kind_ok (by decide +kernel))
theorem glue (x : Str) : Txt.join sp (ws x) = x := by
  rw [TL.join_eq]
  exact StrLaws.join_split x sp
theorem cut {ps : List Str} (h : ps ≠ []) (no : ∀ p ∈ ps, 32 ∉ tl p) : ws (Txt.join sp ps) = ps := TL.split_join (y := sp) (s := 32) (S := []) rfl (by decide +kernel) h no
theorem first32 : ∀ l : List Nat, 32 ∉ l ∨ ∃ a b, l = a ++ 32 :: b ∧ 32 ∉ a
  | [] => .inl (by simp)
  | c :: l => by
    by_cases e : c = 32
    · exact .inr ⟨[], l, by rw [e]; rfl, by simp⟩
    · rcases first32 l with h | ⟨a, b, h1, h2⟩
      · exact .inl (by simp [h, Ne.symm e])
      · exact .inr ⟨c :: a, b, by rw [h1]; rfl, by simp [h2, Ne.symm e]⟩
theorem spl_facts : ∀ (n : Nat) (l : List Nat), l.length ≤ n → (TL.spl [32] 0 [] l).length = l.count 32 + 1 ∧ (∀ p ∈ TL.spl [32] 0 [] l, 32 ∉ p ∧ p.length ≤ l.length ∧ ∀ c ∈ p, c ∈ l)
  | 0, l, h => by
    have : l = [] := List.length_eq_zero_iff.mp (by omega)
    subst this
    rw [TL.spl_last1 (s := 32) (p := []) (by simp)]
    refine ⟨rfl, fun p hp => ?_⟩
    rw [List.mem_singleton] at hp
    subst hp
    exact ⟨by simp, by simp, by simp⟩
  | n + 1, l, h => by
    rcases first32 l with h0 | ⟨a, b, rfl, ha⟩
    · rw [TL.spl_last1 h0]
      refine ⟨?_, fun p hp => ?_⟩
      · rw [List.count_eq_zero.mpr h0]
        rfl
      · rw [List.mem_singleton, List.nil_append] at hp
        subst hp
        exact ⟨h0, Nat.le_refl _, fun c hc => hc⟩
    · have e : a ++ 32 :: b = a ++ ([32] ++ b) := rfl
      rw [e, TL.spl_part1 ha]
      have hb : b.length ≤ n := by
        rw [List.length_append, List.length_cons] at h
        omega
      obtain ⟨i1, i2⟩ := spl_facts n b hb
      refine ⟨?_, fun p hp => ?_⟩
      · rw [List.length_cons, i1, List.count_append, List.count_append, List.count_eq_zero.mpr ha]
        show _ = 0 + (1 + _) + 1
        omega
      · rcases List.mem_cons.mp hp with hp | hp
        · rw [List.nil_append] at hp
          subst hp
          refine ⟨ha, by rw [List.length_append]; omega, fun c hc => List.mem_append_left _ hc⟩
        · obtain ⟨j1, j2, j3⟩ := i2 p hp
          refine ⟨j1, by rw [List.length_append, List.length_append]; omega, fun c hc => List.mem_append_right _ (List.mem_append_right _ (j3 c hc))⟩
theorem ws_len (x : Str) : (ws x).length = (tl x).count 32 + 1 := by
  rw [← (spl_facts _ (tl x) (Nat.le_refl _)).1, ← ws_spl, List.length_map]
theorem ws_mem {x p : Str} (h : p ∈ ws x) : 32 ∉ tl p ∧ p.length ≤ x.length ∧ ∀ c ∈ tl p, c ∈ tl x := by
  have := (spl_facts _ (tl x) (Nat.le_refl _)).2 (tl p) (by rw [← ws_spl]; exact List.mem_map_of_mem h)
  refine ⟨this.1, ?_, this.2.2⟩
  have l := this.2.1
  rw [len_cps, len_cps] at l
  exact l
theorem ws_ne (x : Str) : ws x ≠ [] := fun h => by
  have := ws_len x
  rw [h] at this
  simp at this
/-! the kinds of words -/
/-- the word is an amount above 0, written -/
def amtB (x : Str) : Bool := (tl x).all (fun c => decide (48 ≤ c ∧ c ≤ 57)) && !(tl x).isEmpty && decide ((tl x).head? ≠ some 48)
theorem amt_plain {x : Str} (h : amtB x = true) : Plain (tl x) := by
  unfold amtB at h
  simp only [Bool.and_eq_true, List.all_eq_true, decide_eq_true_eq, Bool.not_eq_true', List.isEmpty_eq_false_iff] at h
  exact ⟨h.1.1, h.1.2, h.2⟩
theorem plain_amt {x : Str} (h : Plain (tl x)) : amtB x = true := by
  unfold amtB
  simp only [Bool.and_eq_true, List.all_eq_true, decide_eq_true_eq, Bool.not_eq_true', List.isEmpty_eq_false_iff]
  exact ⟨⟨h.dig, h.ne⟩, h.no⟩
/-- a name behind another one -/
def okN (prev x : Str) : Bool := nameB x && decide (tl prev < tl x)
/-- the first word that cannot stand, or how many there are if one lacks -/
def wr (prev : Str) (i : Nat) : List Str → Option Nat
  | [] => none
  | [x] => if okN prev x = true then some (i + 1) else some i
  | x :: a :: r => if okN prev x = true then (if amtB a = true then wr x (i + 2) r else some (i + 1)) else some i
/-- the amounts that the words tell -/
def rows : List Str → Row
  | x :: a :: r => (x, (valT a : Int)) :: rows r
  | _ => []
def wrong (l : List Str) : Option Nat := if l.head? = some ("-" : Str) then (if 1 < l.length then some 1 else none) else wr "" 0 l
/-- the row, as words -/
def wordsOf : Row → List Str
  | [] => []
  | t :: r => t.1 :: numT t.2 :: wordsOf r
theorem rows_words : ∀ {ts : Row}, (∀ t ∈ ts, 0 ≤ t.2) → rows (wordsOf ts) = ts
  | [], _ => rfl
  | (n, a) :: r, h => by
    have ih := rows_words (ts := r) fun t ht => h t (.tail _ ht)
    have h0 : 0 ≤ a := h (n, a) (.head _)
    show (n, (valT (numT a) : Int)) :: rows (wordsOf r) = _
    rw [ih, valT_num h0]
/-- rows that a text can tell -/
structure Asc (prev : Str) (ts : Row) : Prop where
  nm : ∀ t ∈ ts, nameB t.1 = true
  am : ∀ t ∈ ts, 0 < t.2
  up : (prev :: ts.map (·.1)).Pairwise fun a b => tl a < tl b
theorem wr_words : ∀ {ts : Row} {prev : Str} {i : Nat}, Asc prev ts → wr prev i (wordsOf ts) = none
  | [], _, _, _ => rfl
  | (n, a) :: r, prev, i, h => by
    have hn : nameB n = true := h.nm _ (.head _)
    have ha : 0 < a := h.am (n, a) (.head _)
    have hp : tl prev < tl n := (List.pairwise_cons.mp h.up).1 n (.head _)
    have ih : wr n (i + 2) (wordsOf r) = none := wr_words ⟨fun t ht => h.nm t (.tail _ ht), fun t ht => h.am t (.tail _ ht), (List.pairwise_cons.mp h.up).2⟩
    have k1 : okN prev n = true := by
      unfold okN
      rw [hn, decide_eq_true hp]
      rfl
    have k2 : amtB (numT a) = true := plain_amt (by
      show Plain (numT a).cps.toList
      rw [numT_cps (Int.le_of_lt ha)]
      exact dl_plain (by omega))
    show (if okN prev n = true then (if amtB (numT a) = true then wr n (i + 2) (wordsOf r) else some (i + 1)) else some i) = none
    rw [if_pos k1, if_pos k2, ih]
theorem wr_asc : ∀ {l : List Str} {prev : Str} {i : Nat}, wr prev i l = none → Asc prev (rows l) ∧ wordsOf (rows l) = l
  | [], prev, i, _ => ⟨⟨(fun t ht => nomatch ht), (fun t ht => nomatch ht), List.pairwise_singleton _ _⟩, rfl⟩
  | [x], prev, i, h => by
    exfalso
    unfold wr at h
    split at h <;> cases h
  | x :: a :: r, prev, i, h => by
    unfold wr at h
    by_cases k1 : okN prev x = true
    · rw [if_pos k1] at h
      by_cases k2 : amtB a = true
      · rw [if_pos k2] at h
        obtain ⟨⟨i1, i2, i3⟩, i4⟩ := wr_asc h
        unfold okN at k1
        rw [Bool.and_eq_true, decide_eq_true_eq] at k1
        have pl := amt_plain k2
        have vp : 0 < valT a := val_pos pl
        refine ⟨⟨fun t ht => ?_, fun t ht => ?_, ?_⟩, ?_⟩
        · rcases List.mem_cons.mp ht with rfl | ht
          · exact k1.1
          · exact i1 t ht
        · rcases List.mem_cons.mp ht with rfl | ht
          · show (0 : Int) < (valT a : Nat)
            omega
          · exact i2 t ht
        · show (prev :: x :: (rows r).map (·.1)).Pairwise _
          refine List.pairwise_cons.mpr ⟨fun b hb => ?_, i3⟩
          rcases List.mem_cons.mp hb with rfl | hb
          · exact k1.2
          · exact List.lt_trans k1.2 ((List.pairwise_cons.mp i3).1 b hb)
        · show x :: numT (valT a : Nat) :: wordsOf (rows r) = _
          rw [i4, show numT (valT a : Nat) = a from numT_val pl]
      · rw [if_neg k2] at h
        cases h
    · rw [if_neg k1] at h
      cases h
theorem rows_len : ∀ l : List Str, 2 * (rows l).length ≤ l.length
  | [] => Nat.le_refl _
  | [_] => by show 2 * 0 ≤ 1; omega
  | x :: a :: r => by
    have := rows_len r
    show 2 * ((rows r).length + 1) ≤ r.length + 1 + 1
    omega
theorem rows_mem : ∀ {l : List Str} {t : Str × Int}, t ∈ rows l → ∃ a ∈ l, t.2 = (valT a : Nat)
  | [], _, h => nomatch h
  | [_], _, h => nomatch h
  | x :: a :: r, t, h => by
    rcases List.mem_cons.mp h with rfl | h
    · exact ⟨a, .tail _ (.head _), rfl⟩
    · obtain ⟨b, hb, e⟩ := rows_mem h
      exact ⟨b, .tail _ (.tail _ hb), e⟩
/-! the whole text -/
theorem empty_app (x : Str) : Str.empty ++ x = x := Str.empty_append x
theorem line_words : ∀ {ts : Row}, ts ≠ [] → Txt.join sp (ts.map wordT) = Txt.join sp (wordsOf ts)
  | [], h => absurd rfl h
  | [t], _ => by
    rw [TL.join_eq, TL.join_eq]
    show wordT t = t.1 ++ sp ++ numT t.2
    unfold wordT
    rw [empty_app]
  | t :: u :: r, _ => by
    have ih := line_words (ts := u :: r) (by simp)
    rw [TL.join_eq, TL.join_eq] at ih ⊢
    show wordT t ++ sp ++ Str.join sp ((u :: r).map wordT) = t.1 ++ sp ++ (numT t.2 ++ sp ++ Str.join sp (wordsOf (u :: r)))
    rw [ih]
    unfold wordT
    rw [empty_app]
    refine Dg.ext ?_
    simp only [app_cps, List.append_assoc]
theorem lineT_words {ts : Row} (h : ts ≠ []) : lineT ts = Txt.join sp (wordsOf ts) := by
  unfold lineT
  rw [if_neg (by simpa using h), line_words h]
theorem words_no {ts : Row} (hn : ∀ t ∈ ts, nameB t.1 = true) (ha : ∀ t ∈ ts, 0 ≤ t.2) : ∀ p ∈ wordsOf ts, 32 ∉ tl p := by
  induction ts with
  | nil => intro p hp; cases hp
  | cons t r ih =>
    intro p hp
    rcases List.mem_cons.mp hp with rfl | hp
    · have := hn t (.head _)
      intro h32
      unfold nameB at this
      simp only [Bool.and_eq_true] at this
      have h2 := this.1.2
      unfold Txt.isalpha at h2
      rw [Bool.and_eq_true] at h2
      have h3 := h2.2
      rw [← Array.all_toList, List.all_eq_true] at h3
      have := h3 32 h32
      revert this
      decide +kernel
    · rcases List.mem_cons.mp hp with rfl | hp
      · intro h32
        have h0 := ha t (.head _)
        have := dl_digits t.2.toNat 32 (by rw [← numT_cps h0]; exact h32)
        omega
      · exact ih (fun u hu => hn u (.tail _ hu)) (fun u hu => ha u (.tail _ hu)) p hp
theorem words_ne {ts : Row} (h : ts ≠ []) : wordsOf ts ≠ [] := by
  cases ts with
  | nil => exact absurd rfl h
  | cons t r => exact fun z => nomatch z
theorem dash_name : nameB "-" = false := by decide +kernel
/-- what a side's text is read as -/
def readR (l : List Str) : Row := if l.head? = some ("-" : Str) then [] else rows l
theorem wrong_line {ts : Row} (h : Asc "" ts) : wrong (ws (lineT ts)) = none ∧ readR (ws (lineT ts)) = ts := by
  by_cases e : ts = []
  · subst e
    have : ws (lineT []) = [("-" : Str)] := cut (ps := [("-" : Str)]) (by simp) (by decide +kernel)
    rw [this]
    exact ⟨rfl, rfl⟩
  · have nn : ∀ t ∈ ts, 0 ≤ t.2 := fun t ht => Int.le_of_lt (h.am t ht)
    have ew : ws (lineT ts) = wordsOf ts := by
      rw [lineT_words e]
      exact cut (words_ne e) (words_no h.nm nn)
    have hd : ¬ (wordsOf ts).head? = some ("-" : Str) := by
      cases ts with
      | nil => exact absurd rfl e
      | cons t r =>
        intro z
        have : t.1 = "-" := Option.some.inj z
        have n := h.nm t (.head _)
        rw [this, dash_name] at n
        cases n
    rw [ew]
    unfold wrong readR
    rw [if_neg hd, if_neg hd]
    exact ⟨wr_words h, rows_words nn⟩
theorem line_wrong {x : Str} (h : wrong (ws x) = none) : Asc "" (readR (ws x)) ∧ lineT (readR (ws x)) = x := by
  unfold wrong at h
  unfold readR
  by_cases hd : (ws x).head? = some ("-" : Str)
  · rw [if_pos hd] at h ⊢
    refine ⟨⟨(fun t ht => nomatch ht), (fun t ht => nomatch ht), List.pairwise_singleton _ _⟩, ?_⟩
    have l1 : ¬ 1 < (ws x).length := fun z => by
      rw [if_pos z] at h
      cases h
    have : ws x = [("-" : Str)] := by
      cases hw : ws x with
      | nil => exact absurd hw (ws_ne x)
      | cons a r =>
        rw [hw] at hd l1
        have : r = [] := List.length_eq_zero_iff.mp (by rw [List.length_cons] at l1; omega)
        rw [this, Option.some.inj hd]
    have g := glue x
    rw [this] at g
    exact g
  · rw [if_neg hd] at h ⊢
    obtain ⟨a1, a2⟩ := wr_asc h
    have ne : rows (ws x) ≠ [] := fun z => by
      rw [z] at a2
      exact ws_ne x a2.symm
    refine ⟨a1, ?_⟩
    rw [lineT_words ne, a2]
    exact glue x
end Wd

set_option Elab.async false
set_option linter.all false
set_option maxRecDepth 100000
set_option maxHeartbeats 4000000
/-! number_of, is_number_text. -/
namespace Wd
open PySem PySem.NumText PySem.Spec PyProof.Rows L2 Fk
open Dg hiding numT
abbrev sNumOf : Stmt := top 27
abbrev sIsNum : Stmt := top 28
def spNumOf : Sp := fun vs H Q _ => ∃ x : Str, vs = [.str x] ∧ AllDigits (tl x) ∧ x.length ≤ 10000 ∧ Q (.int (valT x : Nat)) H
/-- a word that is a number's text -/
def numB (x : Str) : Bool := Txt.isascii x && Txt.isdigit x && (decide (x = "0") || decide ((tl x).head? ≠ some 48))
def spIsNum : Sp := fun vs H Q _ => ∃ x : Str, vs = [.str x] ∧ x.length ≤ 10000 ∧ Q (.bl (numB x)) H
theorem scNumOf : FnScope ["word", "number", "head", "at"] ["word"] (defScope sNumOf) := ⟨rfl, rfl, rfl, by decide +kernel, rfl, by decide +kernel, by decide +kernel⟩
theorem scIsNum : FnScope ["word"] ["word"] (defScope sIsNum) := ⟨rfl, rfl, rfl, by decide +kernel, rfl, by decide +kernel, by decide +kernel⟩
theorem digit_chars {x : Str} (h : (Txt.isascii x && Txt.isdigit x) = true) : AllDigits (tl x) ∧ tl x ≠ [] := by
  unfold Txt.isascii Txt.isdigit at h
  simp only [Bool.and_eq_true, decide_eq_true_eq, ← Array.all_toList, List.all_eq_true] at h
  obtain ⟨h1, h2, h3⟩ := h
  refine ⟨fun c hc => ?_, fun e => ?_⟩
  · have dg : ∀ c, c < 128 → Unicode.isDigit c = true → 48 ≤ c ∧ c ≤ 57 := by decide +kernel
    exact dg c (h1 c hc) (h3 c hc)
  · rw [← len_cps] at h2
    have : (tl x).length > 0 := h2
    rw [e] at this
    exact absurd this (by decide)
theorem chars_digit {x : Str} (h : AllDigits (tl x)) (ne : tl x ≠ []) : (Txt.isascii x && Txt.isdigit x) = true := by
  unfold Txt.isascii Txt.isdigit
  simp only [Bool.and_eq_true, decide_eq_true_eq, ← Array.all_toList, List.all_eq_true]
  refine ⟨fun c hc => ?_, ?_, fun c hc => ?_⟩
  · have := h c hc
    omega
  · rw [← len_cps]
    exact List.length_pos_iff.mpr ne
  · have hc := h c hc
    have : ∀ c, c < 128 → 48 ≤ c → c ≤ 57 → Unicode.isDigit c = true := by decide +kernel
    exact this c (by omega) hc.1 hc.2
/-- an amount above 0: just the number's texts with a number above 0 -/
theorem amt_num (x : Str) : (numB x && decide (1 ≤ valT x)) = amtB x := by
  unfold numB
  cases hd : Txt.isascii x && Txt.isdigit x with
  | false =>
    cases ha : amtB x with
    | false => rfl
    | true =>
      have p := amt_plain ha
      rw [chars_digit p.dig p.ne] at hd
      cases hd
  | true =>
    obtain ⟨h1, h2⟩ := digit_chars hd
    rw [Bool.true_and]
    by_cases e : (tl x).head? = some 48
    · have ha : amtB x = false := by
        cases ha : amtB x with
        | false => rfl
        | true => exact absurd e (amt_plain ha).no
      rw [ha, Bool.and_eq_false_iff]
      by_cases e0 : x = "0"
      · right
        rw [e0]
        decide +kernel
      · left
        rw [decide_eq_false e0, decide_eq_false (fun z => z e)]
        rfl
    · have p : Plain (tl x) := ⟨h1, h2, e⟩
      rw [plain_amt p, decide_eq_true e, Bool.or_true, Bool.true_and]
      exact decide_eq_true (val_pos p)
theorem int_cut {x : Str} (h : AllDigits (tl x)) {lo n : Nat} (hn : 0 < n) (hl : lo + n ≤ x.length) (z : Str) (hz : tl z = ((tl x).drop lo).take n) (n64 : n ≤ 64) : PySem.intText? z = some ((digitsVal (((tl x).drop lo).take n) : Nat) : Int) ∧ z.length ≤ 640 := by
  have lz : z.length = n := by
    rw [← len_cps]
    show (tl z).length = n
    rw [hz, List.length_take, List.length_drop, len_cps]
    omega
  have az : AllDigits (tl z) := by
    rw [hz]
    exact fun c hc => h c (List.mem_of_mem_drop (List.mem_of_mem_take hc))
  refine ⟨?_, by omega⟩
  rw [← hz]
  exact intText_digits az (fun e => by
    have : z.cps.toList.length = 0 := by rw [e]; rfl
    rw [len_cps] at this
    omega) (by omega)
theorem step_size {a b : Nat} (h : b < 2 ^ 60) (k : Nat) (hk : b = a + 64 * k) : RgC (a : Int) (b : Int) 64 k := by
  have e : Builtin.Range.rangeSize (a : Int) (b : Int) 64 = k := by
    unfold Builtin.Range.rangeSize
    rw [if_pos (by decide)]
    by_cases c : (a : Int) < b
    · rw [if_pos c]
      omega
    · rw [if_neg c]
      omega
  have p60 : (2 : Int) ^ 60 = 1152921504606846976 := by decide
  have p63 : (2 : Int) ^ 63 = 9223372036854775808 := by decide
  have n60 : (2 : Nat) ^ 60 = 1152921504606846976 := by decide
  have ft : ∀ z : Int, -(1152921504606846976) ≤ z → z ≤ 1152921504606846976 + 128 → Builtin.Range.rangeFitsLong z = true := fun z h1 h2 => by
    unfold Builtin.Range.rangeFitsLong
    rw [p63, decide_eq_true (show -9223372036854775808 ≤ z by omega), decide_eq_true (show z < 9223372036854775808 by omega)]
    rfl
  refine ⟨by decide, by decide, ?_, e⟩
  unfold Builtin.Range.small
  rw [e]
  rw [ft _ (by omega) (by omega), ft _ (by omega) (by omega), ft 64 (by omega) (by omega), ft _ (by omega) (by omega), if_pos (by decide), ft _ (by omega) (by omega)]
  simp
theorem val_bits {cs : List Nat} (h : AllDigits cs) (hl : cs.length ≤ 10000) : ((digitsVal cs : Nat) : Int).natAbs < 2 ^ 40000 := by
  have h1 := val_lt h
  have h2 : 10 ^ cs.length ≤ 16 ^ cs.length := Nat.pow_le_pow_left (by decide) _
  have h3 : 16 ^ cs.length = 2 ^ (4 * cs.length) := by rw [Nat.pow_mul]
  have h4 : 2 ^ (4 * cs.length) ≤ 2 ^ 40000 := Nat.pow_le_pow_right (by decide) (by omega)
  rw [Int.natAbs_natCast]
  exact Nat.lt_of_lt_of_le h1 (Nat.le_trans h2 (by rw [h3]; exact h4))
theorem cut_tl (x : Str) (lo hi : Nat) (h : lo ≤ hi) (hl : hi ≤ x.length) : tl (cutS x (some (lo : Int)) (some (hi : Int))) = ((tl x).drop lo).take (hi - lo) := by
  show ((x.cps.toList.drop (HT.sIx x.length 0 (some (lo : Int)))).take (HT.sIx x.length x.length (some (hi : Int)) - HT.sIx x.length 0 (some (lo : Int)))).toArray.toList = _
  rw [HT.sIx_nat, HT.sIx_nat, Nat.min_eq_left (Nat.le_trans h hl), Nat.min_eq_left hl]
theorem cut_tl0 (x : Str) (hi : Nat) (hl : hi ≤ x.length) : tl (cutS x none (some (hi : Int))) = ((tl x).drop 0).take hi := by
  show ((x.cps.toList.drop 0).take (HT.sIx x.length x.length (some (hi : Int)) - 0)).toArray.toList = _
  rw [HT.sIx_nat, Nat.min_eq_left hl]
  rfl
section
variable {P : Program} {w : World} {K : PySem.W.Frag} {mg : Str → Option Value} {base : Heap} {f : Addr} {fd : FuncData}
theorem ok_isNum (F : Fun K "is_number_text" "is_number_text" sIsNum f fd) : FnOk P w K mg base CX0 1 f fd ["word"] spIsNum := by
  refine F.ok scIsNum (fun vs H Q E h => ?_) (fun cdv A outer s H vs Q E hr h => ?_)
  · obtain ⟨x, rfl, _⟩ := h
    rfl
  · obtain ⟨x, rfl, hl, q⟩ := h
    refine ⟨_, pss_one (ps_ret (pe_and (pe_bm0 PySem.F.plainAttrs_str PySem.F.slot_str_isascii PySem.F.type_str_isascii mt_isascii (pv 0)) (pe_and (pe_bm0 PySem.F.plainAttrs_str PySem.F.slot_str_isdigit PySem.F.type_str_isdigit mt_isdigit (pv 0))
      (pe_one (pe_or (pe_cmpR op_eq (pv 0) pe_str (nomark _)) (pe_one (pe_cmpR op_ne (pe_item_str (pv 0) pe_int (fun _ _ => rfl)) pe_str (nomark _)))))))), ?_⟩
    refine ⟨_, rfl, rfl, x, rfl, rfl, trivial, _, rfl, ?_⟩
    cases h1 : Txt.isascii x with
    | false =>
      have e : numB x = false := by unfold numB; rw [h1]; rfl
      rw [e] at q
      exact q
    | true =>
      refine ⟨_, rfl, rfl, x, rfl, rfl, trivial, _, rfl, ?_⟩
      cases h2 : Txt.isdigit x with
      | false =>
        have e : numB x = false := by unfold numB; rw [h1, h2]; rfl
        rw [e] at q
        exact q
      | true =>
        obtain ⟨d1, d2⟩ := digit_chars (x := x) (by rw [h1, h2]; rfl)
        have e : numB x = (decide (x = "0") || decide ((tl x).head? ≠ some 48)) := by unfold numB; rw [h1, h2]; rfl
        rw [e] at q
        refine ⟨_, rfl, rfl, _, rfl, ?_⟩
        have ds : decide (V.str x = V.str "0") = decide (x = "0") := by
          by_cases c : x = "0"
          · rw [decide_eq_true c, decide_eq_true (by rw [c])]
          · rw [decide_eq_false c, decide_eq_false (fun z => c (V.str.inj z))]
        rw [ds]
        cases h0 : decide (x = "0") with
        | true =>
          rw [h0] at q
          exact q
        | false =>
          rw [h0, Bool.false_or] at q
          cases hx : tl x with
          | nil => exact absurd hx d2
          | cons c r =>
            have hs : 0 < x.length := by
              rw [← len_cps]
              show 0 < (tl x).length
              rw [hx]
              exact Nat.succ_pos _
            refine ⟨_, rfl, x, 0, c, rfl, rfl, Int.le_refl _, by decide, by omega, ?_, rfl, ?_⟩
            · rw [← Array.getElem?_toList]
              show (tl x)[0]? = some c
              rw [hx]
              rfl
            · have : (!decide (V.str ⟨#[c]⟩ = V.str "0")) = decide ((tl x).head? ≠ some 48) := by
                rw [hx]
                show (!decide (V.str ⟨#[c]⟩ = V.str "0")) = decide (some c ≠ some 48)
                by_cases e : c = 48
                · subst e
                  rfl
                · rw [decide_eq_true (show some c ≠ some 48 from fun z => e (Option.some.inj z))]
                  rw [decide_eq_false]
                  · rfl
                  · intro z
                    have z1 : (⟨#[c]⟩ : Str) = "0" := V.str.inj z
                    have z2 : (#[c] : Array Nat).toList = [48] := congrArg (fun y : Str => y.cps.toList) z1
                    exact e (List.cons.inj z2).1
              rw [this]
              exact q
theorem take_more {x : Str} {lo n : Nat} : (tl x).take (lo + n) = (tl x).take lo ++ ((tl x).drop lo).take n := List.take_add
theorem ok_numOf {tK : Tok} (F : Fun K "number_of" "number_of" sNumOf f fd) (T : Fk.Blt mg) (hR : mg "range" = none) (gC : mg "CHUNK" = some (.int 64 tK)) : FnOk P w K mg base CX0 1 f fd ["word"] spNumOf := by
  have nd := scNumOf.nd
  refine F.ok scNumOf (fun vs H Q E h => ?_) (fun cdv A outer s H vs Q E hr h => ?_)
  · obtain ⟨x, rfl, _⟩ := h
    rfl
  · obtain ⟨x, rfl, hd, hl, q⟩ := h
    refine ⟨_, pss_cons (ps_set (i := 1) nd rfl (Or.inl rfl) pe_int) (pss_cons (ps_set (i := 2) nd rfl (Or.inl rfl) (pe_op op_modN (pe_callB call_len_str (by rfl) T.len PySem.boot_len (pa_cons (pv 0) pa_nil)) (pe_glob (v := .int 64) (by rfl) gC ⟨_, rfl⟩)))
      (pss_cons (ps_if (pt_cmpR op_gt (pv 2) pe_int (nomark _)) (pss_one (ps_set (i := 1) nd rfl (Or.inl rfl) (pe_callTy call_int_str (by rfl) T.int (by decide +kernel) (pa_cons (pe_slice sl_str (pv 0) po_none (po_some (pv 2))) pa_nil)))) pss_nil)
      (pss_cons (ps_for PassesOwn.never rfl (pi_range3 rfl hR (pa_cons (pv 2) (pa_cons (pe_callB call_len_str (by rfl) T.len PySem.boot_len (pa_cons (pv 0) pa_nil)) (pa_cons (pe_glob (v := .int 64) (by rfl) gC ⟨_, rfl⟩) pa_nil)))) (pg_name (i := 3) nd rfl (Or.inl rfl))
        (pss_one (ps_set (i := 1) nd rfl (Or.inl rfl) (pe_op op_add (pe_op op_mulW (pv 1) (pe_op op_pow pe_int pe_int)) (pe_callTy call_int_str (by rfl) T.int (by decide +kernel) (pa_cons (pe_slice sl_str (pv 0) (po_some (pv 3)) (po_some (pe_op op_add (pv 3) (pe_glob (v := .int 64) (by rfl) gC ⟨_, rfl⟩)))) pa_nil))))))
      (pss_one (ps_ret (pv 1)))))), ?_⟩
    generalize hL : x.length = L at *
    have eL : L = L % 64 + 64 * (L / 64) := by omega
    have len0 : (tl x).length = L := by
      show x.cps.toList.length = L
      rw [len_cps, hL]
    have lz : L ≤ sizeLine := by
      rw [sizeLine_eq]
      omega
    have fm : Int.fmod ((L : Nat) : Int) 64 = ((L % 64 : Nat) : Int) := by
      rw [Int.fmod_eq_emod_of_nonneg _ (by decide)]
      rfl
    refine ⟨_, rfl, x, rfl, by rw [hL]; exact lz, _, _, rfl, rfl, (show (64 : Int) ≠ 0 by decide), ?_⟩
    dsimp only
    rw [hL, fm]
    refine ⟨_, rfl, _, _, rfl, rfl, _, rfl, ?_⟩
    have loop : ∀ y : Option V, y = some (.int (digitsVal ((tl x).take (L % 64)) : Nat)) → tSeq (tFor (iRng3 (tCons (tVar 2) (tCons (tCB (fun xs H Q => ∃ a : Str, xs = [.str a] ∧ a.length ≤ sizeLine ∧ Q (.int (a.length : Nat)) H) (tCons (tVar 0) tNil)) (tCons (tC (.int 64)) tNil)))) (gName 3)
        (tAsg (tOp (rI0 fun i j => .int (i + j)) (tOp (rI CMulW fun i j => .int (i * j)) (tVar 1) (tOp (rI CPow fun i j => .int (i ^ j.toNat)) (tC (.int 10)) (tC (.int 64)))) (tCB (fun xs H Q => ∃ a n, xs = [.str a] ∧ PySem.intText? a = some n ∧ a.length ≤ 640 ∧ Q (.int n) H) (tCons (tSl rSlS (tVar 0) (tPart (tVar 3)) (tPart (tOp (rI0 fun i j => .int (i + j)) (tVar 3) (tC (.int 64))))) tNil))) (gName 1)))
        (tRet (tVar 1)) { nx := fun _ H' => Q .non H', rt := Q } [some (.str x), y, some (.int ((L % 64 : Nat) : Int)), none] H := by
      rintro y rfl
      refine ⟨_, rfl, _, rfl, x, rfl, by rw [hL]; exact lz, _, _, _, (L / 64), rfl, step_size (by rw [hL]; exact Nat.lt_of_le_of_lt hl (by decide)) (L / 64) (by rw [hL]; exact eL), for_rangeC (n := L / 64) (fun i σ H' => H' = H ∧ ∃ o, σ = [some (.str x), some (.int (digitsVal ((tl x).take (L % 64 + 64 * i)) : Nat)), some (.int ((L % 64 : Nat) : Int)), o]) ⟨rfl, _, rfl⟩ (fun i σ H' hi h => ?_) (fun σ H' h => ?_)⟩
      · obtain ⟨rfl, o, rfl⟩ := h
        have e1 : (((L % 64 : Nat) : Int) + ((i : Nat) : Int) * 64) = ((L % 64 + 64 * i : Nat) : Int) := by omega
        have hb : L % 64 + 64 * i + 64 ≤ L := by omega
        obtain ⟨c1, c2⟩ := int_cut hd (lo := L % 64 + 64 * i) (n := 64) (by decide) (by omega) (cutS x (some ((L % 64 + 64 * i : Nat) : Int)) (some ((L % 64 + 64 * i + 64 : Nat) : Int))) (by rw [cut_tl x _ _ (by omega) (by omega), show L % 64 + 64 * i + 64 - (L % 64 + 64 * i) = 64 by omega]) (Nat.le_refl _)
        rw [e1]
        refine ⟨_, rfl, 10, 64, rfl, rfl, ⟨by decide, by decide, by decide⟩, _, _, rfl, rfl, ?_, ?_⟩
        · refine wide_mul (a := 40000) (b := 213) (val_bits (fun c hc => hd c (List.mem_of_mem_take hc)) (by rw [List.length_take]; omega)) (by decide) (by decide) (by decide) (by decide)
        · refine ⟨_, rfl, _, rfl, _, rfl, _, rfl, _, _, rfl, rfl, _, rfl, x, rfl, by rw [hL]; exact lz, _, _, rfl, c1, c2, _, _, rfl, rfl, rfl, some (.int ((L % 64 + 64 * i : Nat) : Int)), ?_⟩
          have e2 : (tl x).take (L % 64 + 64 * (i + 1)) = (tl x).take (L % 64 + 64 * i) ++ ((tl x).drop (L % 64 + 64 * i)).take 64 := by
            rw [show L % 64 + 64 * (i + 1) = L % 64 + 64 * i + 64 by omega]
            exact take_more
          have e3 : digitsVal ((tl x).take (L % 64 + 64 * (i + 1))) = digitsVal ((tl x).take (L % 64 + 64 * i)) * 10 ^ 64 + digitsVal (((tl x).drop (L % 64 + 64 * i)).take 64) := by
            rw [e2, val_app, List.length_take, List.length_drop, len0, Nat.min_eq_left (by omega)]
          have ec : ((digitsVal ((tl x).take (L % 64 + 64 * i)) : Nat) : Int) * (10 : Int) ^ (64 : Int).toNat + ((digitsVal (((tl x).drop (L % 64 + 64 * i)).take 64) : Nat) : Int) = ((digitsVal ((tl x).take (L % 64 + 64 * i)) * 10 ^ 64 + digitsVal (((tl x).drop (L % 64 + 64 * i)).take 64) : Nat) : Int) := by
            rw [Int.natCast_add, Int.natCast_mul]
            rfl
          rw [e3, ← ec]
          rfl
      · obtain ⟨rfl, o, rfl⟩ := h
        have : (tl x).take (L % 64 + 64 * (L / 64)) = tl x := by
          rw [← eL, ← len0, List.take_length]
        rw [this]
        exact ⟨_, rfl, q⟩
    refine ite2 (fun c => ?_) (fun c => ?_)
    · obtain ⟨c1, c2⟩ := int_cut hd (lo := 0) (n := L % 64) (by have := of_decide_eq_true c; omega) (by omega) (cutS x none (some ((L % 64 : Nat) : Int))) (cut_tl0 x _ (by omega)) (by omega)
      refine ⟨_, rfl, _, rfl, _, rfl, x, rfl, by rw [hL]; exact lz, _, _, rfl, c1, c2, ?_⟩
      exact loop _ rfl
    · refine loop _ ?_
      have : L % 64 = 0 := by
        have : ¬ ((0 : Int) < ((L % 64 : Nat) : Int)) := fun z => c (decide_eq_true z)
        omega
      rw [this]
      rfl
end
end Wd

set_option Elab.async false
set_option linter.all false
set_option maxRecDepth 100000
set_option maxHeartbeats 4000000
/-! try: .. except X as error: caught = error: the exception is held by a name behind the try. -/
namespace L2
open PySem PySem.Spec PyProof.Rows
/-- at a: an exception that was caught; its class, its dict -/
def ExK (cls : Value) (d : Option Addr) (a : Addr) : HO := .ext fun h => ∃ (oe : Obj) (vs : Array Value), h.get? a = some oe ∧ Zc cls d oe ∧ oe.data = .fields vs
theorem exK_ok {P : Program} {w : World} {H : Hp} {h : Heap} {a : Addr} {cls : Value} {d : Option Addr} {oe : Obj} {vs : Array Value} (e : h.get? a = some oe) (z : Zc cls d oe) (k : oe.data = .fields vs) : ObjOk P w H h a (ExK cls d a) :=
  ⟨⟨oe, vs, e, z, k⟩, ⟨oe, e⟩, fun _ _ ⟨o, v, q, r⟩ k => ⟨o, v, k o q, r⟩⟩
theorem exK_at {P : Program} {w : World} {H : Hp} {h : Heap} {a : Addr} {cls : Value} {d : Option Addr} (hok : HOk P w H h) (e : H a = some (ExK cls d a)) : ∃ (oe : Obj) (vs : Array Value), h.get? a = some oe ∧ Zc cls d oe ∧ oe.data = .fields vs := by
  have x : ObjOk P w H h a (.ext fun h => ∃ (oe : Obj) (vs : Array Value), h.get? a = some oe ∧ Zc cls d oe ∧ oe.data = .fields vs) := hok a _ e
  exact x.1
section
variable {X : Cx} {pins : List (Addr × Obj)} {σ : St} {H : Hp} {s : Shared}
/-- a pinned exception, new since the entry, is tracked from now on -/
theorem Inv.track {a : Addr} {oe : Obj} {vs : Array Value} {cls : Value} {d : Option Addr} (J : Inv X ((a, oe) :: pins) σ H s) (h0 : X.s_0.heap.get? a = none) (hp : ∀ p ∈ X.pn ++ pins, p.1 ≠ a) (z : Zc cls d oe) (hd : oe.data = .fields vs) :
    Inv X pins σ (upd H a (ExK cls d a)) s := by
  obtain ⟨ha, na, nL, nF, nc⟩ := J.pin (a, oe) (List.mem_append_right _ List.mem_cons_self)
  have n0 : ∀ b o, X.s_0.heap.get? b = some o → b ≠ a := fun b o e q => by
    rw [q, h0] at e
    cases e
  refine ⟨J.ok, J.os, J.bare, ⟨J.base.keep, J.base.slot, fun b o e n hx => ?_, J.base.there, fun b xs e => ?_, fun b o u e => ?_, fun b ps e => ?_⟩, J.loc, J.cell, ?_, fun x c e => ?_, fun p h => ?_, J.hok.laidN (fun _ _ q => q) na (exK_ok ha z hd), J.len⟩
  · rw [upd_ne (n0 b o e)]
    exact J.base.free b o e n hx
  · have q := J.base.tups b xs e
    rw [upd_ne (ne_of_none q na)]
    exact q
  · have q := J.base.frzs b o u e
    rw [upd_ne (ne_of_none q na)]
    exact q
  · obtain ⟨more, q⟩ := J.base.tbls b ps e
    exact ⟨more, by rw [upd_ne (ne_of_none q na)]; exact q⟩
  · rw [upd_ne nL.symm]
    exact J.free
  · have ne : c ≠ a := by
      rintro rfl
      obtain ⟨v, hv⟩ := J.cell x _ e
      obtain ⟨o, ho, hdv⟩ := hv
      rw [ha] at ho
      cases ho
      exact nc _ hdv
    rw [upd_ne ne]
    exact J.freeC x c e
  · have hm : p ∈ X.pn ++ (a, oe) :: pins := by
      rcases List.mem_append.mp h with h | h
      · exact List.mem_append_left _ h
      · exact List.mem_append_right _ (List.mem_cons_of_mem _ h)
    obtain ⟨e1, e2, e3⟩ := J.pin p hm
    exact ⟨e1, by rw [upd_ne (hp p h)]; exact e2, e3⟩
theorem Inv.suitePin {a : Addr} {q : Addr × Obj} (I : Inv (X.suite a (q :: (X.pn ++ pins))) [] σ H s) (ok : X.Ok) : Inv X (q :: pins) σ H s :=
  ⟨ok, I.os, I.bare, I.base, I.loc, I.cell, I.free, I.freeC, fun p hp => I.pin p (by
    rw [List.append_nil]
    show p ∈ q :: (X.pn ++ pins)
    rcases List.mem_append.mp hp with h | h
    · exact List.mem_cons_of_mem _ (List.mem_append_left _ h)
    · rcases List.mem_cons.mp h with h | h
      · rw [h]
        exact List.mem_cons_self
      · exact List.mem_cons_of_mem _ (List.mem_append_right _ h)), I.hok, I.len⟩
end
/-- an exception that has landed in this frame: it is new since the entry, apart from all that is pinned -/
structure Landed (X : Cx) (pins : List (Addr × Obj)) (σ : St) (H : Hp) (a : Addr) (cls : Value) (d : Option Addr) (s : Shared) : Prop where
  inv : Inv X pins σ H s
  new0 : X.s_0.heap.get? a = none
  npin : ∀ p ∈ X.pn ++ pins, p.1 ≠ a
  nL : a ≠ X.env.locals
  nF : a ∉ X.fs
  obj : ∃ oe vs, s.heap.get? a = some oe ∧ Zc cls d oe ∧ oe.data = .fields vs
section
variable {X : Cx} {pins : List (Addr × Obj)} {σ : St} {H : Hp} {sI s' : Shared} {B h : Heap} {a : Addr} {cls : Value} {d : Option Addr}
theorem landed_of (hs : X.stack = X.env :: X.outer) (hf : X.env.frame = some X.env.locals) (hx : X.ex = []) (J : Inv X pins σ H sI) (nb : ∀ b o, sI.heap.get? b = some o → b ∉ frs X.stack → B.get? b = some o)
    (os : s'.os = sI.os) (ag : AllBare s'.gens) (fl : HandSPX.FlyingZ B (X.env :: X.outer) a (Zc cls d) h) (up : sI.heap.UpToSlots h) : Landed X pins σ H a cls d { s' with heap := h } := by
  have ob := fl.there
  obtain ⟨oe, vs, he, _, hd⟩ := id ob
  -- no frame is a record of fields
  have nfr : a ∉ frs (X.env :: X.outer) := fun hm => by
    obtain ⟨_, o, e, k⟩ := fl.2.2.1.mem hm
    cases he.symm.trans e
    exact k _ hd
  have nI : ∀ o, sI.heap.get? a ≠ some o := fun o e => by
    have z := (nb a o e (by rw [hs]; exact nfr)).symm.trans fl.2.1
    cases z
  refine ⟨J.landed (s' := { s' with heap := h }) nb fl.1 up os ag, ?_, fun p hp q => nI p.2 (by rw [← q]; exact (J.pin p hp).1), ?_, ?_, ob⟩
  · cases e : X.s_0.heap.get? a with
    | none => rfl
    | some o =>
      obtain ⟨o', z⟩ := J.base.there a o e (by rw [hx]; exact List.not_mem_nil)
      exact absurd z (nI o')
  · rintro rfl
    exact nfr (List.mem_filterMap.mpr ⟨X.env, .head _, hf⟩)
  · intro hm
    obtain ⟨e, he, q⟩ := List.mem_filterMap.mp hm
    exact nfr (List.mem_filterMap.mpr ⟨e, .tail _ he, q⟩)
theorem Landed.suite (L : Landed X pins σ H a cls d s') (na : H a = none) : ∃ oe vs, Zc cls d oe ∧ oe.data = .fields vs ∧ Inv (X.suite a ((a, oe) :: (X.pn ++ pins))) [] σ H s' := by
  obtain ⟨oe, vs, he, hz, hd⟩ := L.obj
  exact ⟨oe, vs, hz, hd, L.inv.suite he hd na L.nL L.nF⟩
end
/-- what the clause wishes: the exception is one of its class; slot i is its name in the suite, slot j the name that keeps it -/
def wKeep (K : PySem.W.Frag) (c : Value) (i j : Nat) (D : Ends) : WX := fun cls d σ H =>
  PySem.W.exmOne K cls c = some true ∧ ∀ a, H a = none → D.nx (((σ.set i (some (.ref a))).set j (some (.ref a))).set i none) (upd H a (ExK cls d a))
section
variable {X : Cx} {x n : Str} {c : Value} {i j : Nat} {body suite : List Stmt} {b₀ : Stmt} {np pos pos' : Pos} {tb : WX → TS}
theorem ps_try_keep (hs : X.stack = X.env :: X.outer) (hf : X.env.frame = some X.env.locals) (hx : X.ex = []) (hN : X.N.Nodup) (hi : X.N[i]? = some n) (hln : X.env.kindOf n = some .local) (hc : Names X x c)
    (hb : ∀ (W : WX) (pn : List (Addr × Obj)) (xe : Value → Shared → Prop), Takes (X.tr pn xe) W → PSs (X.tr pn xe) body (tb W))
    (hsu : ∀ (a : Addr) (oe : Obj) (pn : List (Addr × Obj)), PSs (X.suite a ((a, oe) :: pn)) (b₀ :: suite) (tAsg (tVar i) (gName j))) :
    PS X (.Try body [.ExceptHandler (some (.Name x np)) (some n) (b₀ :: suite) pos'] [] [] pos) (fun D σ H => tb (wKeep X.K c i j D) D σ H) :=
  ⟨fun pins s σ H D I h => wpAny_Try_except (by
    refine wpAny_mono ((hb (wKeep X.K c i j D) (X.pn ++ pins) _ ?takes).run [] s σ H D (I.toTry _) h) (fun f s1 hsp => ?_) (fun _ _ z => z)
    case takes =>
      rintro _ s' ⟨a, B, sI, pins', σ', H', cls, d, rfl, J', nb, up, sky, na, os, ag, hm, hyes⟩
      have J : Inv X pins σ' H' sI := J'.ofTry I.ok
      refine Sky.land Zc.steady (I.ok.frames.trans (congrArg some hs)) hf (by rw [← hs]; exact sky) fun h3 fl3 up3 => ?_
      have L3 := landed_of (s' := s') hs hf hx J nb os ag fl3 (up.trans up3)
      obtain ⟨oe3, vs3, _, _, S3⟩ := L3.suite na
      have look : PySem.W.Looks (model X.prog X.w) h3 (typeOf (.ref a)) cls := fun A Q E s k q => by
        obtain ⟨oe, _, he, hz, _⟩ := L3.obj
        exact wpAny_typeOf_ref (k _ _ he) (by rw [hz.1]; exact q)
      refine wpAny_handleBy_cons (codeAny_handlers_test ?_) nofun
      refine (show ∀ {Q : Value → Shared → Prop} {E : Value → Shared → Prop}, Q c { s' with heap := h3 } → wpAny (model X.prog X.w) (X.A.mark (some (.ref a))) (eval (.Name x np) X.env) Q E { s' with heap := h3 } from fun q => ?name) ((PySem.W.exm_one L3.inv.kIn look hm).here ?_)
      case name =>
        rcases hc with ⟨hg, hd, k | ⟨k1, k2, k3⟩⟩
        · exact ld_glob S3 hg k q hd
        · exact ld_blt S3 hg k1 k2 q k3 hd
      refine codeAny_handlers_suite_as (HandSPX.lands_againZ fl3 fun h4 fl4 up4 => ?_)
      have L4 := landed_of (s' := s') hs hf hx J nb os ag fl4 ((up.trans up3).trans up4)
      obtain ⟨oe4, vs4, hz4, hd4, S4⟩ := L4.suite na
      refine store_ok (X := X.suite a ((a, oe4) :: (X.pn ++ pins))) (v := .ref a) S4 hN hi (.inl hln) rfl (fun s5 S5 => ?_) (.inr hln)
      have hlt : i < σ'.length := J.len ▸ (List.getElem?_eq_some_iff.mp hi).1
      refine wpAny_mono ((hsu a oe4 (X.pn ++ pins)).run [] s5 _ H' { nx := fun σ6 H6 => σ6 = (σ'.set i (some (.ref a))).set j (some (.ref a)) ∧ H6 = H', rt := fun _ _ => False, bk := fun _ _ => False, ct := fun _ _ => False } S5 ⟨.ref a, List.getElem?_set_self hlt, rfl, rfl⟩) (fun f s6 z => ?_) (fun _ _ z => z.elim)
      cases f with
      | next =>
        obtain ⟨_, _, S6, rfl, rfl⟩ := z
        exact gone_ok (S6.suitePin I.ok) hN hi hln fun s7 J7 => ⟨_, _, J7.track L4.new0 L4.npin hz4 hd4, hyes a na⟩
      | ret u => exact (let ⟨_, _, _, _, _, q⟩ := z; q.elim)
      | brk => exact (let ⟨_, _, _, q⟩ := z; q.elim)
      | cont => exact (let ⟨_, _, _, q⟩ := z; q.elim)
    cases f with
    | next => exact (let ⟨_, _, J, q⟩ := hsp; wpAny_execs_nil ⟨_, _, J.ofTry I.ok, q⟩)
    | ret u => exact (let ⟨_, _, _, J, r, q⟩ := hsp; ⟨_, _, _, J.ofTry I.ok, r, q⟩)
    | brk => exact (let ⟨_, _, J, q⟩ := hsp; ⟨_, _, J.ofTry I.ok, q⟩)
    | cont => exact (let ⟨_, _, J, q⟩ := hsp; ⟨_, _, J.ofTry I.ok, q⟩))⟩
end
end L2

set_option Elab.async false
set_option linter.all false
set_option maxRecDepth 100000
set_option maxHeartbeats 4000000
/-! The class Words: an object that goes through the words of a text. -/
namespace Wd
open PySem PySem.NumText PySem.Spec PyProof.Rows L2 EvP Cm Fk
open Dg hiding numT
def wmeth (j : Nat) : Stmt := match top 29 with
  | .ClassDef _ _ _ body _ _ _ _ _ _ _ => body.getD j (.Pass ⟨0, 0, 0, 0⟩)
  | _ => .Pass ⟨0, 0, 0, 0⟩
/-- the class -/
structure WdC (K : PySem.W.Frag) (C : Addr) : Prop where
  cl : Cls K C
  nW : NoAttr K C "words"
  nA : NoAttr K C "at"
/-- the object: its words at l, its place -/
abbrev WdO (C dx l : Addr) (i : Nat) : HO := .ins C dx [(("words" : Str), .ref l), (("at" : Str), .int (i : Nat))]
structure WdAt (C : Addr) (H : Hp) (a dx l : Addr) (w : List Str) (i : Nat) : Prop where
  at_ : H a = some (WdO C dx l i)
  ls : H l = some (.lst (w.map V.str))
  le : i ≤ w.length
  few : w.length ≤ 10000
  fine : ∀ x ∈ w, x.length ≤ 10000
theorem WdAt.ne {C : Addr} {H : Hp} {a dx l : Addr} {w : List Str} {i : Nat} (h : WdAt C H a dx l w i) : l ≠ a := ne_of h.ls h.at_ (fun z => nomatch z)
theorem WdAt.ex {C : Addr} {H H' : Hp} {a dx l : Addr} {w : List Str} {i : Nat} (h : WdAt C H a dx l w i) (e : Ex H H') : WdAt C H' a dx l w i := ⟨e _ _ h.at_, e _ _ h.ls, h.le, h.few, h.fine⟩
theorem WdAt.go {C : Addr} {H : Hp} {a dx l : Addr} {w : List Str} {i : Nat} (h : WdAt C H a dx l w i) {j : Nat} (hj : j ≤ w.length) : WdAt C (upd H a (WdO C dx l j)) a dx l w j := ⟨upd_same, by rw [upd_ne h.ne]; exact h.ls, hj, h.few, h.fine⟩
/-- all but x stays -/
abbrev ButX (x : Addr) (H H' : Hp) : Prop := ∀ b o, H b = some o → b ≠ x → H' b = some o
/-- what a BadText keeps -/
abbrev badF (k : Nat) : List (Str × V) := [(("word" : Str), V.int (k : Nat)), (("line" : Str), V.int 0)]
/-- the error's class, as the top has written it -/
structure BadC (P : Program) (w : World) (K : PySem.W.Frag) (mg : Str → Option Value) (base : Heap) (CB fI : Addr) (fdI : FuncData) : Prop where
  T : OexC K CB
  iC : PySem.W.findIn K (.ref CB) "__init__" = some (some (.ref fI))
  tI : PySem.W.typeIn K (.ref fI) = some (.type "function")
  n1 : PySem.W.findIn K (.ref CB) "line" = some none
  n2 : PySem.W.findIn K (.ref CB) "word" = some none
  G : FnOk P w K mg base CX0 1 fI fdI ["self", "line", "word"] (spInit2 K "line" "word")
  b : Binds K fdI ["self", "line", "word"] []
  g : mg "BadText" = some (.ref CB)
section
variable {P : Program} {w : World} {K : PySem.W.Frag} {mg : Str → Option Value} {base : Heap} {C CB f fI f1 f2 f3 : Addr} {fd fdI fd1 fd2 fd3 : FuncData}
/-- raise BadText(0, k): the way out -/
theorem raise_bad {σ : L2.St} {H : Hp} {k : Nat} {E : XK} {te : TE} (L : BadC P w K mg base CB fI fdI) (h : EvP.Gives te σ H (is (.int (k : Nat)))) (kk : ∀ d H', Ex H H' → H' d = some (.xd (badF k)) → E (.ref CB) (some d) H') :
    tMkO CB (spInit2 K "line" "word") [] (tCons (tC (.int 0)) (tCons te tNil)) σ H (fun cls d H' => E cls d H') := by
  refine h H (Ex.refl H) _ fun v H1 e1 ev => ?_
  cases (show v = .int (k : Nat) from ev)
  refine ⟨(by show 2 ≤ 1000; decide), fun a ha => ?_⟩
  refine ⟨a, CB, .int 0, .int (k : Nat), rfl, L.T, L.n1, L.n2, upd_same, fun d hd ne => ?_⟩
  have hd' : H1 d = none := by rw [upd_ne ne] at hd; exact hd
  refine ⟨rfl, d, badF k, by rw [upd_ne ne.symm, upd_same], upd_same, hd', ?_⟩
  refine kk d _ (fun b o z => ?_) upd_same
  have z1 := e1 _ _ z
  rw [upd_ne (ne_of_none z1 hd'), del_ne (ne_of_none z1 ha), upd_ne (ne_of_none z1 hd'), upd_ne (ne_of_none z1 ha), upd_ne (ne_of_none z1 hd'), upd_ne (ne_of_none z1 ha)]
  exact z1
theorem g_at {σ : L2.St} {H : Hp} {a dx l : Addr} {i j : Nat} {ww : List Str} (S : WdC K C) (hi : σ[j]? = some (some (.ref a))) (h : WdAt C H a dx l ww i) : EvP.Gives (tFld K (tVar j) "at") σ H (is (.int (i : Nat))) := fun H1 e Q q =>
  ⟨_, hi, a, C, dx, _, _, rfl, e _ _ h.at_, S.cl, S.nA, rfl, q _ _ (Ex.refl _) rfl⟩
/-! at_end, word_now, take_dash -/
def spAtEnd (C : Addr) : Sp := fun vs H Q _ => ∃ (a dx l : Addr) (ww : List Str) (i : Nat), vs = [.ref a] ∧ WdAt C H a dx l ww i ∧ Q (.bl (decide (i = ww.length))) H
/-- the next word -/
def nowV (ww : List Str) (i : Nat) : V := match ww[i]? with
  | some x => .str x
  | none => .non
def spNow (C : Addr) : Sp := fun vs H Q _ => ∃ (a dx l : Addr) (ww : List Str) (i : Nat), vs = [.ref a] ∧ WdAt C H a dx l ww i ∧ Q (nowV ww i) H
def spDash (C : Addr) : Sp := fun vs H Q _ => ∃ (a dx l : Addr) (ww : List Str) (i : Nat), vs = [.ref a] ∧ WdAt C H a dx l ww i ∧ (ww[i]? = some ("-" : Str) → Q (.bl true) (upd H a (WdO C dx l (i + 1)))) ∧ (ww[i]? ≠ some ("-" : Str) → Q (.bl false) H)
theorem scAtEnd : FnScope ["self"] ["self"] (defScope (wmeth 1)) := ⟨rfl, rfl, rfl, by decide +kernel, rfl, by decide +kernel, by decide +kernel⟩
theorem scNow : FnScope ["self"] ["self"] (defScope (wmeth 2)) := ⟨rfl, rfl, rfl, by decide +kernel, rfl, by decide +kernel, by decide +kernel⟩
theorem scDash : FnScope ["self"] ["self"] (defScope (wmeth 4)) := ⟨rfl, rfl, rfl, by decide +kernel, rfl, by decide +kernel, by decide +kernel⟩
theorem ok_atEnd (F : Fun K "at_end" "Words.at_end" (wmeth 1) f fd) (S : WdC K C) (T : Fk.Blt mg) : FnOk P w K mg base CX0 1 f fd ["self"] (spAtEnd C) := by
  refine F.ok scAtEnd (fun vs H Q E h => ?_) (fun cdv A outer s H vs Q E hr h => ?_)
  · obtain ⟨a, dx, l, ww, i, rfl, _⟩ := h
    rfl
  · obtain ⟨a, dx, l, ww, i, rfl, h, q⟩ := h
    refine ⟨_, pss_one (ps_ret (pe_cmpR op_eq (pe_fld (pv 0) rfl) (pe_callB call_len_seq (by rfl) T.len PySem.boot_len (pa_cons (pe_fld (pv 0) rfl) pa_nil)) (nomark _))), ?_⟩
    refine ⟨_, rfl, a, C, dx, _, _, rfl, h.at_, S.cl, S.nA, rfl, _, rfl, a, C, dx, _, _, rfl, h.at_, S.cl, S.nW, rfl, l, _, rfl, .inl (SqL.of h.ls), rfl, ?_⟩
    have : decide (V.int (i : Nat) = V.int ((ww.map V.str).length : Nat)) = decide (i = ww.length) := by
      rw [List.length_map]
      by_cases c : i = ww.length
      · rw [decide_eq_true c, decide_eq_true (by rw [c])]
      · rw [decide_eq_false c, decide_eq_false (fun z => c (by have := V.int.inj z; omega))]
    rw [this]
    exact q
theorem ok_now (F : Fun K "word_now" "Words.word_now" (wmeth 2) f fd) (S : WdC K C) (m1 : Meth K C "at_end" f1) (G : FnOk P w K mg base CX0 1 f1 fd1 ["self"] (spAtEnd C)) (b : Binds K fd1 ["self"] []) : FnOk P w K mg base CX0 2 f fd ["self"] (spNow C) := by
  refine F.ok scNow (fun vs H Q E h => ?_) (fun cdv A outer s H vs Q E hr h => ?_)
  · obtain ⟨a, dx, l, ww, i, rfl, _⟩ := h
    rfl
  · obtain ⟨a, dx, l, ww, i, rfl, h, q⟩ := h
    refine ⟨_, pss_cons (ps_if (pt_val (pe_meth0 (pv 0) S.cl m1 G hr b .nil pass0)) (pss_one (ps_ret pe_non)) pss_nil)
      (pss_one (ps_ret (pe_ix ix_list (pe_fld (pv 0) rfl) (pe_fld (pv 0) rfl) (fun _ _ => rfl)))), ?_⟩
    refine ⟨_, rfl, a, dx, _, rfl, h.at_, rfl, a, dx, l, ww, i, rfl, h, _, rfl, ?_⟩
    by_cases c : i = ww.length
    · rw [decide_eq_true c]
      have e : nowV ww i = .non := by
        unfold nowV
        rw [c, List.getElem?_eq_none (Nat.le_refl _)]
      rw [e] at q
      exact q
    · rw [decide_eq_false c]
      have hi : i < ww.length := by
        have := h.le
        omega
      have e : nowV ww i = .str ww[i] := by
        unfold nowV
        rw [List.getElem?_eq_getElem hi]
      rw [e] at q
      refine ⟨_, rfl, a, C, dx, _, _, rfl, h.at_, S.cl, S.nW, rfl, _, rfl, a, C, dx, _, _, rfl, h.at_, S.cl, S.nA, rfl, l, _, _, _, rfl, rfl, SqL.of h.ls, at_of (j := i) rfl (by rw [List.getElem?_map, List.getElem?_eq_getElem hi]; rfl), q⟩
theorem ok_dash (F : Fun K "take_dash" "Words.take_dash" (wmeth 4) f fd) (S : WdC K C) (m2 : Meth K C "word_now" f2) (G : FnOk P w K mg base CX0 2 f2 fd2 ["self"] (spNow C)) (b : Binds K fd2 ["self"] []) : FnOk P w K mg base CX0 3 f fd ["self"] (spDash C) := by
  refine F.ok scDash (fun vs H Q E h => ?_) (fun cdv A outer s H vs Q E hr h => ?_)
  · obtain ⟨a, dx, l, ww, i, rfl, _⟩ := h
    rfl
  · obtain ⟨a, dx, l, ww, i, rfl, h, q1, q2⟩ := h
    refine ⟨_, pss_cons (ps_if (pt_cmpR op_ne (pe_meth0 (pv 0) S.cl m2 G hr b .nil pass0) pe_str (nomark _)) (pss_one (ps_ret pe_bl)) pss_nil)
      (pss_cons (ps_fldaug (pv 0) pe_int in_add) (pss_one (ps_ret pe_bl))), ?_⟩
    refine ⟨_, rfl, a, dx, _, rfl, h.at_, rfl, a, dx, l, ww, i, rfl, h, ?_⟩
    have sc : scal (nowV ww i) (.str "-") = true := by
      unfold nowV
      cases ww[i]? <;> rfl
    have de : decide (nowV ww i = V.str "-") = decide (ww[i]? = some ("-" : Str)) := by
      unfold nowV
      cases ww[i]? with
      | none => rfl
      | some x =>
        by_cases c : x = "-"
        · rw [c]
          rfl
        · rw [decide_eq_false (show ¬ some x = some ("-" : Str) from fun z => c (Option.some.inj z)), decide_eq_false (show ¬ V.str x = V.str "-" from fun z => c (V.str.inj z))]
    refine ⟨sc, _, rfl, ?_⟩
    rw [de]
    by_cases c : ww[i]? = some ("-" : Str)
    · rw [decide_eq_true c]
      exact ⟨_, rfl, a, C, dx, _, _, rfl, h.at_, S.cl, S.nA, rfl, _, _, rfl, rfl, dx, _, h.at_, by show 2 < 1000; decide, q1 c⟩
    · rw [decide_eq_false c]
      exact q2 c
end
end Wd

set_option Elab.async false
set_option linter.all false
set_option maxRecDepth 100000
set_option maxHeartbeats 4000000
/-! The class Words: what may raise. -/
namespace Wd
open PySem PySem.NumText PySem.Spec PyProof.Rows L2 EvP Cm Fk
open Dg hiding numT
/-- the next word, a name behind prev -/
def nowN (prev : Str) (ww : List Str) (i : Nat) : Option Str := match ww[i]? with
  | some x => if okN prev x = true then some x else none
  | none => none
/-- the next word, a number from m on -/
def nowA (m : Nat) (ww : List Str) (i : Nat) : Option Nat := match ww[i]? with
  | some x => if (numB x && decide (m ≤ valT x)) = true then some (valT x) else none
  | none => none
def spTName (C CB : Addr) : Sp := fun vs H Q E => ∃ (a dx l : Addr) (ww : List Str) (i : Nat) (prev : Str), vs = [.ref a, .str "", .str prev] ∧ WdAt C H a dx l ww i ∧
  (∀ x, nowN prev ww i = some x → Q (.str x) (upd H a (WdO C dx l (i + 1)))) ∧ (nowN prev ww i = none → ∀ d H', Ex H H' → H' d = some (.xd (badF i)) → E (.ref CB) (some d) H')
def spTNum (C CB : Addr) : Sp := fun vs H Q E => ∃ (a dx l : Addr) (ww : List Str) (i m : Nat), vs = [.ref a, .int (m : Nat)] ∧ WdAt C H a dx l ww i ∧
  (∀ n, nowA m ww i = some n → Q (.int (n : Nat)) (upd H a (WdO C dx l (i + 1)))) ∧ (nowA m ww i = none → ∀ d H', Ex H H' → H' d = some (.xd (badF i)) → E (.ref CB) (some d) H')
def spTEnd (C CB : Addr) : Sp := fun vs H Q E => ∃ (a dx l : Addr) (ww : List Str) (i : Nat), vs = [.ref a] ∧ WdAt C H a dx l ww i ∧
  (i = ww.length → Q .non H) ∧ (i ≠ ww.length → ∀ d H', Ex H H' → H' d = some (.xd (badF i)) → E (.ref CB) (some d) H')
theorem scTName : FnScope ["self", "least", "behind", "word"] ["self", "least", "behind"] (defScope (wmeth 5)) := ⟨rfl, rfl, rfl, by decide +kernel, rfl, by decide +kernel, by decide +kernel⟩
theorem scTNum : FnScope ["self", "least", "word"] ["self", "least"] (defScope (wmeth 7)) := ⟨rfl, rfl, rfl, by decide +kernel, rfl, by decide +kernel, by decide +kernel⟩
theorem scTEnd : FnScope ["self"] ["self"] (defScope (wmeth 9)) := ⟨rfl, rfl, rfl, by decide +kernel, rfl, by decide +kernel, by decide +kernel⟩
theorem nowN_at {prev x : Str} {ww : List Str} {i : Nat} (h : ww[i]? = some x) {b c : Bool} (hb : nameB x = b) (hc : decide (tl prev < tl x) = c) : nowN prev ww i = if (b && c) = true then some x else none := by
  unfold nowN okN
  rw [h, ← hb, ← hc]
theorem nowA_at {m : Nat} {x : Str} {ww : List Str} {i : Nat} (h : ww[i]? = some x) {b c : Bool} (hb : numB x = b) (hc : decide (m ≤ valT x) = c) : nowA m ww i = if (b && c) = true then some (valT x) else none := by
  unfold nowA
  rw [h, ← hb, ← hc]
theorem now_some {ww : List Str} {i : Nat} {x : Str} (h : ww[i]? = some x) : nowV ww i = .str x := by
  unfold nowV
  rw [h]
theorem now_none {ww : List Str} {i : Nat} (h : ww[i]? = none) : nowV ww i = .non := by
  unfold nowV
  rw [h]
theorem lt_up {ww : List Str} {i : Nat} {x : Str} (h : ww[i]? = some x) : i + 1 ≤ ww.length := (List.getElem?_eq_some_iff.mp h).1
section
variable {P : Program} {w : World} {K : PySem.W.Frag} {mg : Str → Option Value} {base : Heap} {C CB f fI f1 f2 f3 f4 : Addr} {fd fdI fd1 fd2 fd3 fd4 : FuncData} {dvs : List V}
theorem ok_tend (F : Fun K "take_end" "Words.take_end" (wmeth 9) f fd) (S : WdC K C) (L : BadC P w K mg base CB fI fdI) (m1 : Meth K C "at_end" f1) (G : FnOk P w K mg base CX0 1 f1 fd1 ["self"] (spAtEnd C)) (b : Binds K fd1 ["self"] []) : FnOk P w K mg base (L2.CX P w) 3 f fd ["self"] (spTEnd C CB) := by
  refine F.okX scTEnd (fun vs H Q E h => ?_) (fun cdv A outer s H vs Q E hr h => ?_)
  · obtain ⟨a, dx, l, ww, i, rfl, _⟩ := h
    rfl
  · obtain ⟨a, dx, l, ww, i, rfl, h, q1, q2⟩ := h
    refine ⟨_, pss_one (ps_if (pt_not (pt_val (pe_meth0 (pv 0) S.cl m1 G (hr.mono (by decide)) b .nil pass0)))
      (pss_one (ps_raise (W := fun cls d _ H => E cls d H) rfl (takes_of rfl rfl rfl rfl) (pmk_oex (CX := CX0) L.T L.iC L.tI L.G (hr.mono (by decide)) L.b .nil pass0 (by rfl) L.g (pa_cons pe_int (pa_cons (pe_fld (pv 0) rfl) pa_nil))))) pss_nil), ?_⟩
    refine ⟨_, rfl, a, dx, _, rfl, h.at_, rfl, a, dx, l, ww, i, rfl, h, _, rfl, ?_⟩
    by_cases c : i = ww.length
    · rw [decide_eq_true c]
      exact q1 c
    · rw [decide_eq_false c]
      exact raise_bad L (g_at S rfl h) (q2 c)
theorem ok_tname (F : FunD K "take_name" "Words.take_name" (defArgs (wmeth 5)) (defBody (wmeth 5)) (defScope (wmeth 5)) [.str "", .str ""] [] f fd) (S : WdC K C) (L : BadC P w K mg base CB fI fdI) (m2 : Meth K C "word_now" f2) (G : FnOk P w K mg base CX0 2 f2 fd2 ["self"] (spNow C)) (b : Binds K fd2 ["self"] [])
    (GN : FnOk P w K mg base CX0 1 f3 fd3 ["value"] (spName K)) (bN : Binds K fd3 ["value"] []) (gN : mg "is_name" = some (.ref f3)) (kN : PySem.W.keepIn K (.ref f3) = true) : FnOk P w K mg base (L2.CX P w) 4 f fd ["self", "least", "behind"] (spTName C CB) := by
  have nd := scTName.nd
  refine FunD.ok (CX := L2.CX P w) F scTName (fun vs H Q E h => ?_) (fun cdv A outer s H vs Q E hr h => ?_)
  · obtain ⟨a, dx, l, ww, i, prev, rfl, _⟩ := h
    rfl
  · obtain ⟨a, dx, l, ww, i, prev, rfl, h, q1, q2⟩ := h
    refine ⟨_, pss_cons (ps_set (i := 3) nd rfl (Or.inl rfl) (pe_meth0 (pv 0) S.cl m2 G (hr.mono (by decide)) b .nil pass0))
      (pss_cons (ps_if (PW.pt (pw_or (pt_not (pt_val (pe_call GN (hr.mono (by decide)) (by rfl) gN kN bN .nil pass0 (pa_cons (pv 3) pa_nil)))) (pw_or (pt_cmpR op_lt_str (pv 3) (pv 1) (nomark _)) (pw_or1 (pt_cmpR op_le_str (pv 3) (pv 2) (nomark _))))))
        (pss_one (ps_raise (W := fun cls d _ H => E cls d H) rfl (takes_of rfl rfl rfl rfl) (pmk_oex (CX := CX0) L.T L.iC L.tI L.G (hr.mono (by decide)) L.b .nil pass0 (by rfl) L.g (pa_cons pe_int (pa_cons (pe_fld (pv 0) rfl) pa_nil))))) pss_nil)
      (pss_cons (ps_fldaug (pv 0) pe_int in_add) (pss_one (ps_ret (pv 3))))), ?_⟩
    refine ⟨_, rfl, a, dx, _, rfl, h.at_, rfl, a, dx, l, ww, i, rfl, h, ?_⟩
    cases e : ww[i]? with
    | none =>
      rw [now_none e]
      refine ⟨_, rfl, _, rfl, .inr ⟨_, .base .non, by decide +kernel, _, rfl, ?_⟩⟩
      exact raise_bad L (g_at S rfl h) (q2 (by unfold nowN; rw [e]))
    | some x =>
      rw [now_some e]
      have fx := h.fine x (List.mem_of_getElem? e)
      refine ⟨_, rfl, _, rfl, .inl ⟨x, rfl, by rw [sizeLine_eq]; omega, _, rfl, ?_⟩⟩
      cases hn : nameB x with
      | false => exact raise_bad L (g_at S rfl h) (q2 (nowN_at e hn rfl))
      | true =>
        refine ⟨_, rfl, _, rfl, _, _, rfl, rfl, _, rfl, ?_⟩
        have n0 : decide (x.cps.toList < (Str.ofString "").cps.toList) = false := by
          refine decide_eq_false ?_
          show ¬ x.cps.toList < []
          exact List.not_lt_nil _
        rw [n0]
        refine ⟨_, rfl, _, rfl, _, _, rfl, rfl, _, rfl, ?_⟩
        cases hp : decide (prev.cps.toList < x.cps.toList) with
        | false => exact raise_bad L (g_at S rfl h) (q2 (nowN_at e hn hp))
        | true =>
          exact ⟨_, rfl, a, C, dx, _, _, rfl, h.at_, S.cl, S.nA, rfl, _, _, rfl, rfl, dx, _, h.at_, by show 2 < 1000; decide, _, rfl, q1 x (nowN_at e hn hp)⟩
theorem ok_tnum (F : Fun K "take_number" "Words.take_number" (wmeth 7) f fd) (S : WdC K C) (L : BadC P w K mg base CB fI fdI) (m2 : Meth K C "word_now" f2) (G : FnOk P w K mg base CX0 2 f2 fd2 ["self"] (spNow C)) (b : Binds K fd2 ["self"] [])
    (GI : FnOk P w K mg base CX0 1 f3 fd3 ["word"] spIsNum) (bI : Binds K fd3 ["word"] []) (gI : mg "is_number_text" = some (.ref f3)) (kI : PySem.W.keepIn K (.ref f3) = true)
    (GN : FnOk P w K mg base CX0 1 f4 fd4 ["word"] spNumOf) (bN : Binds K fd4 ["word"] []) (gN : mg "number_of" = some (.ref f4)) (kN : PySem.W.keepIn K (.ref f4) = true) : FnOk P w K mg base (L2.CX P w) 4 f fd ["self", "least"] (spTNum C CB) := by
  have nd := scTNum.nd
  refine F.okX scTNum (fun vs H Q E h => ?_) (fun cdv A outer s H vs Q E hr h => ?_)
  · obtain ⟨a, dx, l, ww, i, m, rfl, _⟩ := h
    rfl
  · obtain ⟨a, dx, l, ww, i, m, rfl, h, q1, q2⟩ := h
    refine ⟨_, pss_cons (ps_set (i := 2) nd rfl (Or.inl rfl) (pe_meth0 (pv 0) S.cl m2 G (hr.mono (by decide)) b .nil pass0))
      (pss_cons (ps_if (PW.pt (pw_or (pt_cmpR op_isN (pv 2) pe_non (nomark _)) (pw_or (pt_not (pt_val (pe_call GI (hr.mono (by decide)) (by rfl) gI kI bI .nil pass0 (pa_cons (pv 2) pa_nil)))) (pw_or1 (pt_cmpR op_lt (pe_call GN (hr.mono (by decide)) (by rfl) gN kN bN .nil pass0 (pa_cons (pv 2) pa_nil)) (pv 1) (nomark _))))))
        (pss_one (ps_raise (W := fun cls d _ H => E cls d H) rfl (takes_of rfl rfl rfl rfl) (pmk_oex (CX := CX0) L.T L.iC L.tI L.G (hr.mono (by decide)) L.b .nil pass0 (by rfl) L.g (pa_cons pe_int (pa_cons (pe_fld (pv 0) rfl) pa_nil))))) pss_nil)
      (pss_cons (ps_fldaug (pv 0) pe_int in_add) (pss_one (ps_ret (pe_call GN (hr.mono (by decide)) (by rfl) gN kN bN .nil pass0 (pa_cons (pv 2) pa_nil)))))), ?_⟩
    refine ⟨_, rfl, a, dx, _, rfl, h.at_, rfl, a, dx, l, ww, i, rfl, h, ?_⟩
    cases e : ww[i]? with
    | none =>
      rw [now_none e]
      refine ⟨_, rfl, rfl, _, rfl, ?_⟩
      exact raise_bad L (g_at S rfl h) (q2 (by unfold nowA; rw [e]))
    | some x =>
      rw [now_some e]
      have fx := h.fine x (List.mem_of_getElem? e)
      refine ⟨_, rfl, rfl, _, rfl, ?_⟩
      refine ⟨_, rfl, x, rfl, fx, _, rfl, ?_⟩
      cases hb : numB x with
      | false => exact raise_bad L (g_at S rfl h) (q2 (nowA_at e hb rfl))
      | true =>
        have dg : AllDigits (tl x) := (digit_chars (x := x) (by unfold numB at hb; rw [Bool.and_eq_true] at hb; exact hb.1)).1
        refine ⟨_, rfl, x, rfl, dg, fx, _, rfl, _, _, rfl, rfl, _, rfl, ?_⟩
        have dv : decide (((valT x : Nat) : Int) < ((m : Nat) : Int)) = !decide (m ≤ valT x) := by
          by_cases c : m ≤ valT x
          · rw [decide_eq_true c, decide_eq_false (by omega)]
            rfl
          · rw [decide_eq_false c, decide_eq_true (by omega)]
            rfl
        rw [dv]
        cases hm : decide (m ≤ valT x) with
        | false => exact raise_bad L (g_at S rfl h) (q2 (nowA_at e hb hm))
        | true =>
          exact ⟨_, rfl, a, C, dx, _, _, rfl, h.at_, S.cl, S.nA, rfl, _, _, rfl, rfl, dx, _, h.at_, by show 2 < 1000; decide, _, rfl, x, rfl, dg, fx, q1 _ (nowA_at e hb hm)⟩
end
end Wd

set_option Elab.async false
set_option linter.all false
set_option maxRecDepth 100000
set_option maxHeartbeats 4000000
/-! take_numbers, take_amounts, Words(..), Side.read. -/
namespace Wd
open PySem PySem.NumText PySem.Spec PyProof.Rows L2 EvP Cm Fk
open Dg hiding numT
/-- names with numbers to the end -/
def spTNums (C CB : Addr) : Sp := fun vs H Q E => ∃ (a dx l : Addr) (ww : List Str) (i : Nat), vs = [.ref a, .int 1, .non] ∧ WdAt C H a dx l ww i ∧ i < ww.length ∧
  (wr "" i (ww.drop i) = none → ∀ d H', ButX a H H' → H d = none → H' d = some (.dK (ents (rows (ww.drop i)))) → WdAt C H' a dx l ww ww.length → Q (.ref d) H') ∧
  (∀ k, wr "" i (ww.drop i) = some k → ∀ d H', ButX a H H' → H' d = some (.xd (badF k)) → E (.ref CB) (some d) H')
/-- one turn -/
theorem wr_step {ww : List Str} {prev : Str} {i : Nat} (hi : i < ww.length) :
    (nowN prev ww i = none → wr prev i (ww.drop i) = some i) ∧
    (∀ x, nowN prev ww i = some x → nowA 1 ww (i + 1) = none → wr prev i (ww.drop i) = some (i + 1)) ∧
    (∀ x n, nowN prev ww i = some x → nowA 1 ww (i + 1) = some n → wr prev i (ww.drop i) = wr x (i + 2) (ww.drop (i + 2)) ∧ rows (ww.drop i) = (x, ((n : Nat) : Int)) :: rows (ww.drop (i + 2)) ∧ nameB x = true ∧ tl prev < tl x ∧ i + 2 ≤ ww.length) := by
  have d1 : ww.drop i = ww[i] :: ww.drop (i + 1) := List.drop_eq_getElem_cons hi
  have e1 : ww[i]? = some ww[i] := List.getElem?_eq_getElem hi
  have nN : nowN prev ww i = if okN prev ww[i] = true then some ww[i] else none := by
    unfold nowN
    rw [e1]
  rw [nN]
  by_cases ok : okN prev ww[i] = true
  · rw [if_pos ok]
    refine ⟨fun z => (by cases z), fun x hx hA => ?_, fun x n hx hA => ?_⟩
    · by_cases h2 : i + 1 < ww.length
      · have d2 : ww.drop (i + 1) = ww[i + 1] :: ww.drop (i + 1 + 1) := List.drop_eq_getElem_cons h2
        have na : ¬ amtB ww[i + 1] = true := by
          intro z
          unfold nowA at hA
          rw [List.getElem?_eq_getElem h2] at hA
          dsimp only at hA
          rw [amt_num, if_pos z] at hA
          cases hA
        rw [d1, d2]
        unfold wr
        rw [if_pos ok, if_neg na]
      · have d2 : ww.drop (i + 1) = [] := List.drop_eq_nil_of_le (by omega)
        rw [d1, d2]
        unfold wr
        rw [if_pos ok]
    · have h2 : i + 1 < ww.length := by
        by_cases h2 : i + 1 < ww.length
        · exact h2
        · unfold nowA at hA
          rw [List.getElem?_eq_none (by omega)] at hA
          cases hA
      have d2 : ww.drop (i + 1) = ww[i + 1] :: ww.drop (i + 1 + 1) := List.drop_eq_getElem_cons h2
      have ya : amtB ww[i + 1] = true ∧ n = valT ww[i + 1] := by
        unfold nowA at hA
        rw [List.getElem?_eq_getElem h2] at hA
        dsimp only at hA
        rw [amt_num] at hA
        by_cases z : amtB ww[i + 1] = true
        · rw [if_pos z] at hA
          exact ⟨z, (Option.some.inj hA).symm⟩
        · rw [if_neg z] at hA
          cases hA
      obtain rfl := Option.some.inj hx
      have ok' := ok
      unfold okN at ok'
      rw [Bool.and_eq_true, decide_eq_true_eq] at ok'
      refine ⟨?_, ?_, ok'.1, ok'.2, by omega⟩
      · rw [d1, d2, show i + 2 = i + 1 + 1 from rfl]
        conv => lhs; unfold wr
        rw [if_pos ok, if_pos ya.1]
      · rw [d1, d2, ya.2]
        rfl
  · rw [if_neg ok]
    refine ⟨fun _ => ?_, fun x hx => (by cases hx), fun x n hx => (by cases hx)⟩
    rw [d1]
    cases hr : ww.drop (i + 1) with
    | nil =>
      unfold wr
      rw [if_neg ok]
    | cons y r =>
      unfold wr
      rw [if_neg ok]
def NTs : List Str := ["self", "least", "sign", "numbers", "name"]
theorem scTNums : FnScope NTs ["self", "least", "sign"] (defScope (wmeth 8)) := ⟨rfl, rfl, rfl, by decide +kernel, rfl, by decide +kernel, by decide +kernel⟩
/-- how far the loop is: acc is read, name is the last one's -/
structure TurnI (C a dx l c : Addr) (H : Hp) (ww : List Str) (i0 μ : Nat) (σ : L2.St) (H' : Hp) (acc : Fk.Row) (name : Str) (i : Nat) : Prop where
  μ : μ = ww.length - i
  σ : σ = [some (.ref a), some (.int 1), some .non, some (.ref c), some (.str name)]
  but : ButX a H H'
  d : H' c = some (.dK (ents acc))
  w : WdAt C H' a dx l ww i
  ew : wr "" i0 (ww.drop i0) = wr name i (ww.drop i)
  er : rows (ww.drop i0) = acc ++ rows (ww.drop i)
  st : (acc = [] ∧ name = "" ∧ i = i0) ∨ (acc ≠ [] ∧ nameB name = true)
  up : ∀ t ∈ acc, t.1 = name ∨ tl t.1 < tl name
  few : 2 * acc.length ≤ i
theorem turn_ok {C CB a dx l c : Addr} {H H1 : Hp} {ww : List Str} {i0 μ : Nat} {σ : L2.St} {acc : Fk.Row} {name : Str} {i : Nat} {E : XK} {D : Ends} (T : TurnI C a dx l c H ww i0 μ σ H1 acc name i) (hc : H c = none) (hi : i < ww.length)
    (kN : ∀ m σ2 H2 acc2 name2 i2, m < μ → TurnI C a dx l c H ww i0 m σ2 H2 acc2 name2 i2 → D.nx σ2 H2)
    (kE : ∀ k, wr "" i0 (ww.drop i0) = some k → ∀ d H', ButX a H H' → H' d = some (.xd (badF k)) → E (.ref CB) (some d) H') :
    tSeq (tAsg (tMeth C "take_name" (spTName C CB) [] E (tVar 0) (tCons (tC (.str "")) (tCons (tVar 4) tNil))) (gName 4)) (sDPut (tVar 3) (tVar 4) (tMeth C "take_number" (spTNum C CB) [] E (tVar 0) (tCons (tVar 1) tNil))) D σ H1 := by
  obtain ⟨rfl, rfl, bt, hd, hw, ew, er, st, up, few⟩ := T
  obtain ⟨s1, s2, s3⟩ := wr_step (prev := name) hi
  refine ⟨_, rfl, a, dx, _, rfl, hw.at_, rfl, _, rfl, a, dx, l, ww, i, name, rfl, hw, fun x hx => ?_, fun hn d H2 e2 hd2 => kE i (by rw [ew, s1 hn]) d H2 (fun b o hb ne => e2 _ _ (bt b o hb ne)) hd2⟩
  have ca : c ≠ a := ne_of hd hw.at_ (fun z => nomatch z)
  have cl : c ≠ l := ne_of hd hw.ls (fun z => nomatch z)
  have hw1 : WdAt C (upd H1 a (WdO C dx l (i + 1))) a dx l ww (i + 1) := hw.go hi
  have bt1 : ButX a H (upd H1 a (WdO C dx l (i + 1))) := fun b o hb ne => by
    rw [upd_ne ne]
    exact bt b o hb ne
  refine ⟨_, rfl, a, dx, _, rfl, hw1.at_, rfl, _, rfl, a, dx, l, ww, i + 1, 1, rfl, hw1, fun n hn => ?_, fun hn d H2 e2 hd2 => kE (i + 1) (by rw [ew, s2 x hx hn]) d H2 (fun b o hb ne => e2 _ _ (bt1 b o hb ne)) hd2⟩
  obtain ⟨t1, t2, t3, t4, t5⟩ := s3 x n hx hn
  have hw2 : WdAt C (upd (upd H1 a (WdO C dx l (i + 1))) a (WdO C dx l (i + 1 + 1))) a dx l ww (i + 1 + 1) := hw1.go t5
  have hd2 : upd (upd H1 a (WdO C dx l (i + 1))) a (WdO C dx l (i + 1 + 1)) c = some (.dK (ents acc)) := by
    rw [upd_ne ca, upd_ne ca]
    exact hd
  have nin : ¬ (acc.any fun t => decide (t.1 = x)) = true := fun z => by
    obtain ⟨t, ht, et⟩ := List.any_eq_true.mp z
    have et := of_decide_eq_true et
    rcases up t ht with h | h
    · rw [← h, et] at t4
      exact List.lt_irrefl _ t4
    · rw [et] at h
      exact List.lt_irrefl _ (List.lt_trans h t4)
  have en : putK (ents acc) (Sum.inr x) (V.int (n : Nat)) = ents (acc ++ [(x, ((n : Nat) : Int))]) := by
    rw [← ents_put]
    unfold putR
    rw [if_neg nin]
  refine ⟨_, rfl, _, rfl, c, _, rfl, DPut.k (k := Sum.inr x) hd2 (by unfold ents; rw [List.length_map, sizeLine_eq]; have := hw.few; omega), kN (ww.length - (i + 2)) _ _ (acc ++ [(x, ((n : Nat) : Int))]) x (i + 2) (by omega) ⟨rfl, rfl, fun b o hb ne => ?_, by rw [upd_same, en], ⟨by rw [upd_ne ca.symm]; exact hw2.at_, by rw [upd_ne cl.symm]; exact hw2.ls, t5, hw.few, hw.fine⟩, by rw [ew, t1], by rw [er, t2, List.append_assoc]; rfl, .inr ⟨by simp, t3⟩, fun t ht => ?_, by rw [List.length_append]; show 2 * (acc.length + 1) ≤ i + 2; omega⟩⟩
  · rw [upd_ne (ne_of_none hb hc), upd_ne ne, upd_ne ne]
    exact bt b o hb ne
  · rcases List.mem_append.mp ht with ht | ht
    · right
      rcases up t ht with h | h
      · rw [h]
        exact t4
      · exact List.lt_trans h t4
    · left
      rw [List.mem_singleton.mp ht]
section
variable {P : Program} {w : World} {K : PySem.W.Frag} {mg : Str → Option Value} {base : Heap} {C CB f fI f1 f2 f3 f4 : Addr} {fd fdI fd1 fd2 fd3 fd4 : FuncData} {dvs : List V}
theorem ok_tnums (F : FunD K "take_numbers" "Words.take_numbers" (defArgs (wmeth 8)) (defBody (wmeth 8)) (defScope (wmeth 8)) [.non] [] f fd) (S : WdC K C) (m2 : Meth K C "word_now" f2) (G2 : FnOk P w K mg base CX0 2 f2 fd2 ["self"] (spNow C)) (b2 : Binds K fd2 ["self"] [])
    (m3 : Meth K C "take_name" f3) (G3 : FnOk P w K mg base (L2.CX P w) 4 f3 fd3 ["self", "least", "behind"] (spTName C CB)) (b3 : Binds K fd3 ["self", "least", "behind"] [])
    (m4 : Meth K C "take_number" f4) (G4 : FnOk P w K mg base (L2.CX P w) 4 f4 fd4 ["self", "least"] (spTNum C CB)) (b4 : Binds K fd4 ["self", "least"] []) : FnOk P w K mg base (L2.CX P w) 5 f fd ["self", "least", "sign"] (spTNums C CB) := by
  have nd := scTNums.nd
  refine FunD.ok (CX := L2.CX P w) F scTNums (fun vs H Q E h => ?_) (fun cdv A outer s H vs Q E hr h => ?_)
  · obtain ⟨a, dx, l, ww, i, rfl, _⟩ := h
    rfl
  · obtain ⟨a, dx, l, ww, i0, rfl, h, lt, q1, q2⟩ := h
    have hu := hu_of hr
    refine ⟨_, pss_cons (ps_set (i := 3) nd rfl (Or.inl rfl) pe_dnewK) (pss_cons (ps_set (i := 4) nd rfl (Or.inl rfl) pe_str)
      (pss_cons (ps_while (passes_of rfl) (PW.pt (pw_or (pt_cmpR op_eq (pv 4) pe_str (nomark _)) (pw_or1 (pt_cmpR op_notIn_seq (pe_meth0 (pv 0) S.cl m2 G2 (hr.mono (by decide)) b2 .nil pass0) (pe_tup (pa_cons pe_non (pa_cons (pv 2) pa_nil))) (by rfl)))))
        (pss_cons (ps_set (i := 4) nd rfl (Or.inl rfl) (pe_meth (E := E) (pv 0) S.cl m3 G3 hr b3 .nil (passes_call (W := fun cls d _ H => E cls d H) (takes_of rfl rfl rfl rfl) (fun _ _ _ _ z => z)) (pa_cons pe_str (pa_cons (pv 4) pa_nil))))
          (pss_one (ps_dput hu (pv 3) (pv 4) (pe_meth (E := E) (pv 0) S.cl m4 G4 hr b4 .nil (passes_call (W := fun cls d _ H => E cls d H) (takes_of rfl rfl rfl rfl) (fun _ _ _ _ z => z)) (pa_cons (pv 1) pa_nil)) rfl))))
      (pss_one (ps_ret (pv 3))))), ?_⟩
    intro c hc
    have e0 := Ex.new (o := .dK []) hc
    have ca : c ≠ a := (ne_of_none h.at_ hc).symm
    have cl : c ≠ l := (ne_of_none h.ls hc).symm
    refine ⟨fun μ σ H' => ∃ (acc : Fk.Row) (name : Str) (i : Nat), TurnI C a dx l c H ww i0 μ σ H' acc name i, ⟨_, [], "", i0, rfl, rfl, fun b o hb _ => e0 _ _ hb, upd_same, h.ex e0, rfl, rfl, .inl ⟨rfl, rfl, rfl⟩, fun t ht => (nomatch ht), Nat.zero_le _⟩, fun μ σ H' hW => ?_⟩
    obtain ⟨acc, name, i, T⟩ := hW
    have T' := T
    obtain ⟨rfl, rfl, bt, hd, hw, ew, er, st, up, few⟩ := T'
    have body : ∀ H1, Ex H' H1 → i < ww.length → ∃ N : L2.St → Hp → Prop, (∀ σ' H2, N σ' H2 → ∃ m', m' < ww.length - i ∧ ∃ (acc : Fk.Row) (name : Str) (i : Nat), TurnI C a dx l c H ww i0 m' σ' H2 acc name i) ∧
      ∀ D : Ends, D.nx = N → tSeq (tAsg (tMeth C "take_name" (spTName C CB) [] E (tVar 0) (tCons (tC (.str "")) (tCons (tVar 4) tNil))) (gName 4)) (sDPut (tVar 3) (tVar 4) (tMeth C "take_number" (spTNum C CB) [] E (tVar 0) (tCons (tVar 1) tNil))) D [some (.ref a), some (.int 1), some .non, some (.ref c), some (.str name)] H1 := fun H1 e1 hi =>
      ⟨fun σ' H2 => ∃ m', m' < ww.length - i ∧ ∃ (acc : Fk.Row) (name : Str) (i : Nat), TurnI C a dx l c H ww i0 m' σ' H2 acc name i, fun _ _ z => z, fun D eD => turn_ok (μ := ww.length - i) ⟨rfl, rfl, fun b o hb ne => e1 _ _ (bt b o hb ne), e1 _ _ hd, hw.ex e1, ew, er, st, up, few⟩ hc hi (fun m σ2 H2 acc2 name2 i2 lt T2 => by rw [eD]; exact ⟨m, lt, acc2, name2, i2, T2⟩) q2⟩
    rcases st with ⟨rfl, rfl, rfl⟩ | ⟨ne, nb⟩
    · obtain ⟨N, hN, hb⟩ := body H' (Ex.refl H') lt
      exact ⟨_, rfl, rfl, _, rfl, N, hN, hb _ rfl⟩
    · have n0 : decide (V.str name = V.str "") = false := decide_eq_false fun z => by
        have : name = "" := V.str.inj z
        rw [this] at nb
        revert nb
        decide +kernel
      refine ⟨_, rfl, rfl, _, rfl, ?_⟩
      rw [n0]
      refine ⟨_, rfl, a, dx, _, rfl, hw.at_, rfl, a, dx, l, ww, i, rfl, hw, _, rfl, by show 2 ≤ sizeLine; decide, fun t ht => ?_⟩
      refine ⟨t, [.non, .non], rfl, .inr (SqT.of upd_same), ?_, rfl, _, rfl, ?_⟩
      · unfold nowV
        cases ww[i]? <;> rfl
      have et := Ex.new (o := .tup [.non, .non]) ht
      cases e : ww[i]? with
      | some x =>
        rw [now_some e]
        obtain ⟨N, hN, hb⟩ := body _ et (lt_up e)
        exact ⟨N, hN, hb _ rfl⟩
      | none =>
        rw [now_none e]
        have il : i = ww.length := by
          have := List.getElem?_eq_none_iff.mp e
          have := hw.le
          omega
        subst il
        have dn : ww.drop ww.length = [] := List.drop_length
        rw [dn] at ew er
        refine ⟨_, rfl, q1 ew c _ (fun b o hb ne => et _ _ (bt b o hb ne)) hc ?_ (hw.ex et)⟩
        rw [er]
        show _ = some (HO.dK (ents (acc ++ [])))
        rw [List.append_nil]
        exact et _ _ hd
end
end Wd


set_option Elab.async false
set_option linter.all false
set_option maxRecDepth 100000
set_option maxHeartbeats 4000000
/-! take_amounts, Words(..), Side.read. -/
namespace Wd
open PySem PySem.NumText PySem.Spec PyProof.Rows L2 EvP Cm Fk
open Dg hiding numT
theorem Asc.nod {prev : Str} {ts : Fk.Row} (h : Asc prev ts) : (ts.map (·.1)).Nodup := (List.pairwise_cons.mp h.up).2.imp fun {a b} hab e => by
  rw [e] at hab
  exact List.lt_irrefl _ hab
theorem Asc.good {prev : Str} {ts : Fk.Row} (h : Asc prev ts) (few : ts.length < 64) : Good ts where
  nod := h.nod
  nm := fun t ht => ⟨_, rfl, by have := name_len (h.nm t ht); rw [sizeLine_eq]; omega, h.nm t ht⟩
  am := fun t ht => Int.le_of_lt (h.am t ht)
  few := few
theorem lookup_at : ∀ {kvs : Fk.Row} {t : Str × Int}, (kvs.map (·.1)).Nodup → t ∈ kvs → amt kvs t.1 = t.2
  | (m, b) :: r, t, n, h => by
    obtain ⟨n1, n2⟩ := List.nodup_cons.mp n
    unfold amt
    rcases List.mem_cons.mp h with rfl | h
    · simp [List.lookup]
    · have ne : t.1 ≠ m := fun z => n1 (by show m ∈ r.map (·.1); rw [← z]; exact List.mem_map_of_mem (f := Prod.fst) h)
      have e : (t.1 == m) = false := beq_eq_false_iff_ne.mpr ne
      simp only [List.lookup, e]
      exact lookup_at n2 h
theorem Asc.told {prev : Str} {ts : Fk.Row} (h : Asc prev ts) : told ts = ts := by
  have pw : (ts.map (·.1)).Pairwise leS := (List.pairwise_cons.mp h.up).2.imp fun hab => by
    unfold leS
    exact List.not_lt.mp fun z => List.lt_irrefl _ (List.lt_trans hab z)
  have es : srt (ts.map (·.1)) = ts.map (·.1) := List.Perm.eq_of_pairwise (le := leS) (fun _ _ _ _ a b => leS_anti a b) (srt_pairwise _) pw (srt_perm _)
  have ea : asc ts = ts := by
    unfold asc
    rw [es, List.map_map]
    have : ∀ l : Fk.Row, (∀ t ∈ l, amt ts t.1 = t.2) → l.map ((fun n => (n, amt ts n)) ∘ fun t : Str × Int => t.1) = l := fun l => by
      induction l with
      | nil => intro _; rfl
      | cons t r ih =>
        intro hl
        rw [List.map_cons, ih fun u hu => hl u (.tail _ hu)]
        show (t.1, amt ts t.1) :: r = _
        rw [hl t (.head _)]
    exact this ts fun t ht => lookup_at h.nod ht
  unfold Fk.told
  rw [ea]
  exact List.filter_eq_self.mpr fun t ht => decide_eq_true (h.am t ht)
def spTAmts (C CB : Addr) : Sp := fun vs H Q E => ∃ (a dx l : Addr) (ww : List Str), vs = [.ref a, .non] ∧ WdAt C H a dx l ww 0 ∧ 0 < ww.length ∧
  (ww.head? = some ("-" : Str) → ∀ d H', ButX a H H' → H d = none → H' d = some (.dK []) → WdAt C H' a dx l ww 1 → Q (.ref d) H') ∧
  (ww.head? ≠ some ("-" : Str) → wr "" 0 ww = none → ∀ d H', ButX a H H' → H d = none → H' d = some (.dK (ents (rows ww))) → WdAt C H' a dx l ww ww.length → Q (.ref d) H') ∧
  (ww.head? ≠ some ("-" : Str) → ∀ k, wr "" 0 ww = some k → ∀ d H', ButX a H H' → H' d = some (.xd (badF k)) → E (.ref CB) (some d) H')
def spWInit (K : PySem.W.Frag) (C CB : Addr) : Sp := fun vs H Q E => ∃ (x dx : Addr) (v : V), vs = [.ref x, v] ∧ H x = some (.ins C dx []) ∧
  ((∃ z, v = .str z ∧ z.length ≤ 9000 ∧ ∀ l H', ButX x H H' → WdAt C H' x dx l (ws z) 0 → Q .non H') ∨
   (∃ t, TyX K H v t ∧ PySem.W.kitOne K t (.type "str") = some false ∧ ∀ d H', ButX x H H' → H' d = some (.xd (badF 0)) → E (.ref CB) (some d) H'))
abbrev sTAmts : Stmt := top 35
theorem scTAmts : FnScope ["words", "sign"] ["words", "sign"] (defScope sTAmts) := ⟨rfl, rfl, rfl, by decide +kernel, rfl, by decide +kernel, by decide +kernel⟩
theorem scWInit : FnScope ["self", "text"] ["self", "text"] (defScope (wmeth 0)) := ⟨rfl, rfl, rfl, by decide +kernel, rfl, by decide +kernel, by decide +kernel⟩
section
variable {P : Program} {w : World} {K : PySem.W.Frag} {mg : Str → Option Value} {base : Heap} {C CB f fI f1 f2 f3 f4 : Addr} {fd fdI fd1 fd2 fd3 fd4 : FuncData} {dvs : List V}
theorem ok_tamts (F : FunD K "take_amounts" "take_amounts" (defArgs sTAmts) (defBody sTAmts) (defScope sTAmts) [.non] [] f fd) (S : WdC K C) (m1 : Meth K C "take_dash" f1) (G1 : FnOk P w K mg base CX0 3 f1 fd1 ["self"] (spDash C)) (b1 : Binds K fd1 ["self"] [])
    (m2 : Meth K C "take_numbers" f2) (G2 : FnOk P w K mg base (L2.CX P w) 5 f2 fd2 ["self", "least", "sign"] (spTNums C CB)) (b2 : Binds K fd2 ["self", "least", "sign"] []) : FnOk P w K mg base (L2.CX P w) 6 f fd ["words", "sign"] (spTAmts C CB) := by
  refine FunD.ok (CX := L2.CX P w) F scTAmts (fun vs H Q E h => ?_) (fun cdv A outer s H vs Q E hr h => ?_)
  · obtain ⟨a, dx, l, ww, rfl, _⟩ := h
    rfl
  · obtain ⟨a, dx, l, ww, rfl, h, lt, q1, q2, q3⟩ := h
    refine ⟨_, pss_cons (ps_if (pt_val (pe_meth0 (pv 0) S.cl m1 G1 (hr.mono (by decide)) b1 .nil pass0)) (pss_one (ps_ret pe_dnewK)) pss_nil)
      (pss_one (ps_ret (pe_meth (E := E) (pv 0) S.cl m2 G2 hr b2 .nil (passes_call (W := fun cls d _ H => E cls d H) (takes_of rfl rfl rfl rfl) (fun _ _ _ _ z => z)) (pa_cons pe_int (pa_cons (pv 1) pa_nil))))), ?_⟩
    have e0 : ww[0]? = ww.head? := by
      cases ww <;> rfl
    refine ⟨_, rfl, a, dx, _, rfl, h.at_, rfl, a, dx, l, ww, 0, rfl, h, fun hd => ⟨true, rfl, ?_⟩, fun hd => ⟨false, rfl, ?_⟩⟩
    · rw [e0] at hd
      intro c hc
      have h1 := h.go (j := 1) lt
      have e1 := Ex.new (o := .dK []) hc
      have hc0 : H c = none := by
        rw [upd_ne (ne_of_none h1.at_ hc).symm] at hc
        exact hc
      exact q1 hd c _ (fun b o hb ne => e1 _ _ (by rw [upd_ne ne]; exact hb)) hc0 upd_same (h1.ex e1)
    · rw [e0] at hd
      exact ⟨_, rfl, a, dx, _, rfl, h.at_, rfl, _, rfl, a, dx, l, ww, 0, rfl, h, lt, fun hw => q2 hd hw, fun k hw => q3 hd k hw⟩
theorem ok_winit (F : Fun K "__init__" "Words.__init__" (wmeth 0) f fd) (S : WdC K C) (T : Fk.Blt mg) (L : BadC P w K mg base CB fI fdI) : FnOk P w K mg base (L2.CX P w) 3 f fd ["self", "text"] (spWInit K C CB) := by
  have nd := scWInit.nd
  refine F.okX scWInit (fun vs H Q E h => ?_) (fun cdv A outer s H vs Q E hr h => ?_)
  · obtain ⟨x, dx, v, rfl, _⟩ := h
    rfl
  · obtain ⟨x, dx, v, rfl, hx, h⟩ := h
    refine ⟨_, pss_cons (ps_if (pt_not (pt_val (pe_callB call_isi (by rfl) T.isi (by decide +kernel) (pa_cons (pv 1) (pa_cons (pe_bltn (v := .ty "str") (by rfl) T.str (by decide +kernel) rfl) pa_nil)))))
        (pss_one (ps_raise (W := fun cls d _ H => E cls d H) rfl (takes_of rfl rfl rfl rfl) (pmk_oex (CX := CX0) L.T L.iC L.tI L.G (hr.mono (by decide)) L.b .nil pass0 (by rfl) L.g (pa_cons pe_int (pa_cons pe_int pa_nil))))) pss_nil)
      (pss_cons (ps_fld (pv 0) (pe_split (pv 1) pe_str) rfl) (pss_one (ps_fld (pv 0) pe_int rfl))), ?_⟩
    rcases h with ⟨z, rfl, hz, q⟩ | ⟨t, ty, kt, q⟩
    · refine ⟨_, rfl, _, _, _, _, true, rfl, .ty _, .base (.str z), kit_ty (by decide +kernel), _, rfl, ?_⟩
      refine ⟨_, rfl, ⟨_, rfl⟩, z, " ", rfl, rfl, rfl, by rw [sizeLine_eq]; omega, fun l hl => ?_⟩
      have xl : x ≠ l := ne_of_none hx hl
      refine ⟨_, rfl, x, C, dx, [], rfl, by rw [upd_ne xl]; exact hx, S.cl, S.nW, by show 0 < 1000; decide, ?_⟩
      refine ⟨_, rfl, x, C, dx, _, rfl, upd_same, S.cl, S.nA, by show 1 < 1000; decide, q l _ (fun b o hb ne => ?_) ⟨upd_same, ?_, Nat.zero_le _, ?_, fun p hp => ?_⟩⟩
      · rw [upd_ne ne, upd_ne ne, upd_ne (ne_of_none hb hl)]
        exact hb
      · rw [upd_ne xl.symm, upd_ne xl.symm]
        exact upd_same
      · rw [ws_len]
        have := List.count_le_length (a := 32) (l := tl z)
        rw [len_cps] at this
        omega
      · have := (ws_mem hp).2.1
        omega
    · refine ⟨_, rfl, _, _, _, _, false, rfl, .ty _, ty, kt, _, rfl, ?_⟩
      exact raise_bad (k := 0) L EvP.cst fun d H' e hd => q d H' (fun b o hb _ => e _ _ hb) hd
end
end Wd

set_option Elab.async false
set_option linter.all false
set_option maxRecDepth 100000
set_option maxHeartbeats 4000000
/-! Comprehensions over long texts. -/
namespace Cm
open PySem PySem.Spec PyProof.Rows L2 EvP
section
variable {K : PySem.W.Frag} {σ : L2.St} {H : Hp} {tl te : TE} {tt : TT} {xs : List V} {vs : List Nat} {i : Nat} {wi : TI}
/-- [e for x in xs if t] -/
theorem compB (keep : V → Bool) (φ : V → PR) (hw : Walks wi σ H xs) (hz : xs.length ≤ 20000) (wp : ∀ x, wipe ((wipe σ vs).set i (some x)) vs = wipe σ vs)
    (ht : ∀ x ∈ xs, ∀ H1, Ex H H1 → ∀ Q : Bool → Hp → Prop, Q (keep x) H1 → tt ((wipe σ vs).set i (some x)) H1 Q) (he : ∀ x ∈ xs, keep x = true → Gives te ((wipe σ vs).set i (some x)) H (φ x)) (st : ∀ x ∈ xs, Stays (φ x)) :
    Gives (tLc wi (gName i) tt te vs) σ H (lst H ((xs.filter keep).map φ)) := fun H1 e1 Q q => by
  refine hw H1 e1 _ fun J H2 e2 ⟨G, w, g⟩ D hD => ?_
  have mem : ∀ (j : Nat) (P : PR), P ∈ ((xs.take j).filter keep).map φ → Stays P := fun j P hP => by
    obtain ⟨x, hx, rfl⟩ := List.mem_map.mp hP
    exact st x (List.mem_of_mem_take (List.mem_filter.mp hx).1)
  have len : ∀ j, (((xs.take j).filter keep).map φ).length ≤ 20000 := fun j => by
    rw [List.length_map]
    exact Nat.le_trans (List.length_filter_le _ _) (by rw [List.length_take]; omega)
  refine lc_it w (fun j H' => ∃ acc, H' D = some (.lst acc) ∧ Ex H2 H' ∧ All2 H' (((xs.take j).filter keep).map φ) acc) ⟨[], upd_same, Ex.new hD, .nil⟩ (fun j H' _ ⟨_, _, e3, _⟩ => g _ e3) (fun j x H' H'' hj ⟨acc, a1, a2, a3⟩ y => ?_) (fun H' ⟨acc, a1, a2, a3⟩ => ?_)
  · obtain ⟨rfl, hx⟩ := y
    have mx := List.mem_of_getElem? hx
    have eH := (e1.trans e2).trans a2
    have tk : xs.take (j + 1) = xs.take j ++ [x] := by
      rw [List.take_add_one, hx]
      rfl
    refine ⟨wp x, ht x mx _ eH _ ?_⟩
    cases kx : keep x with
    | false =>
      refine ⟨acc, a1, a2, ?_⟩
      rw [tk, List.filter_append, List.filter_cons, kx]
      simpa using a3
    | true =>
      refine he x mx kx _ eH _ fun v H4 e4 hv => ⟨acc, e4 _ _ a1, ?_, acc ++ [v], upd_same, fun b o hb => ?_, ?_⟩
      · have := a3.length
        have := len j
        rw [sizeLine_eq]
        omega
      · rw [upd_ne (ne_of_none hb hD)]
        exact e4 _ _ (a2 _ _ hb)
      · rw [tk, List.filter_append, List.filter_cons, kx, List.map_append]
        refine all2_stays (e4 _ _ a1) (fun P hP => ?_) (all2_snoc (a3.ex e4) hv)
        rcases List.mem_append.mp hP with hP | hP
        · exact mem j P hP
        · rw [List.mem_singleton.mp hP]
          exact st x mx
  · rw [List.take_length] at a3
    exact q _ _ (e2.trans a2) ⟨D, acc, rfl, a1, (e1.trans e2).back hD, a3⟩
/-- .. of values that are told -/
theorem comp_isB (keep : V → Bool) (f : V → V) (hw : Walks wi σ H xs) (hz : xs.length ≤ 20000) (wp : ∀ x, wipe ((wipe σ vs).set i (some x)) vs = wipe σ vs)
    (ht : ∀ x ∈ xs, ∀ H1, Ex H H1 → ∀ Q : Bool → Hp → Prop, Q (keep x) H1 → tt ((wipe σ vs).set i (some x)) H1 Q) (he : ∀ x ∈ xs, keep x = true → Gives te ((wipe σ vs).set i (some x)) H (is (f x))) :
    Gives (tLc wi (gName i) tt te vs) σ H (lstV ((xs.filter keep).map f)) := fun H1 e1 Q q =>
  compB keep (fun x => is (f x)) hw hz wp ht he (fun _ _ => stays_is _) H1 e1 Q fun v H2 e2 ⟨a, ws, ev, ha, _, hs⟩ => q v H2 e2 ⟨a, ev, by
    have h2 : All2 H2 ((List.map f (xs.filter keep)).map is) ws := by
      rw [List.map_map]
      exact hs
    rw [← all2_is h2]
    exact ha⟩
end
end Cm

set_option Elab.async false
set_option linter.all false
set_option maxRecDepth 100000
set_option maxHeartbeats 4000000
/-! Tests and signs that only add objects; a walk over a side. -/
namespace Cm
open PySem PySem.Spec PyProof.Rows L2 EvP
/-- a test that says b, and only adds -/
def Tst (tt : TT) (σ : L2.St) (H : Hp) (b : Bool) : Prop := ∀ H1, Ex H H1 → ∀ Q : Bool → Hp → Prop, (∀ H2, Ex H1 H2 → Q b H2) → tt σ H1 Q
section
variable {K : PySem.W.Frag} {σ : L2.St} {H : Hp} {ta tb te tc : TE} {P R S : PR} {tt tu : TT} {b c : Bool} {t u : TS} {D : Ends}
theorem t_or (h : Tst tt σ H false) (k : Tst tu σ H b) : Tst (tOr tt tu) σ H b := fun H1 e Q q =>
  h H1 e _ fun H2 e2 => (by
    show tu σ H2 Q
    exact k H2 (e.trans e2) Q fun H3 e3 => q H3 (e2.trans e3))
theorem t_and (h : Tst tt σ H true) (k : Tst tu σ H b) : Tst (tAnd tt tu) σ H b := fun H1 e Q q =>
  h H1 e _ fun H2 e2 => (by
    show tu σ H2 Q
    exact k H2 (e.trans e2) Q fun H3 e3 => q H3 (e2.trans e3))
theorem t_andF (h : Tst tt σ H false) : Tst (tAnd tt tu) σ H false := fun H1 e Q q => h H1 e _ fun H2 e2 => q H2 e2
theorem t_not (h : Tst tt σ H b) : Tst (tNot tt) σ H (!b) := fun H1 e Q q => h H1 e _ q
theorem t_val (h : EvP.Gives te σ H (is (.bl b))) : Tst (tB te) σ H b := fun H1 e Q q => h H1 e _ fun v H2 e2 ev => ⟨b, ev, q _ e2⟩
theorem t_test (h : EvP.Gives te σ H (is (.bl b))) : Tst (tTest te) σ H b := fun H1 e Q q => h H1 e _ fun v H2 e2 ev => ⟨b, ev, q _ e2⟩
/-- a sign of two values -/
theorem g_op {r : R2} (h : EvP.Gives ta σ H P) (k : EvP.Gives tb σ H R) (step : ∀ x y H1, Ex H H1 → P.R x H1 → R.R y H1 → ∀ Q : VK, (∀ v H2, Ex H1 H2 → S.R v H2 → Q v H2) → r x y H1 Q) : EvP.Gives (tOp r ta tb) σ H S := fun H1 e Q q =>
  h H1 e _ fun x H2 e2 hx => k H2 (e.trans e2) _ fun y H3 e3 hy => step x y H3 ((e.trans e2).trans e3) (P.mono _ _ _ e3 hx) hy Q fun v H4 e4 hv => q v H4 ((e2.trans e3).trans e4) hv
/-- a call of a built-in, one argument -/
theorem g_call {r : List V → Hp → VK → Prop} (h : EvP.Gives te σ H P) (step : ∀ x H1, Ex H H1 → P.R x H1 → ∀ Q : VK, (∀ v H2, Ex H1 H2 → S.R v H2 → Q v H2) → r [x] H1 Q) : EvP.Gives (tCB r (tCons te tNil)) σ H S := fun H1 e Q q =>
  h H1 e _ fun x H2 e2 hx => step x H2 (e.trans e2) hx Q fun v H3 e3 hv => q v H3 (e2.trans e3) hv
theorem g_and (h : EvP.Gives ta σ H (is (.bl true))) (k : EvP.Gives tb σ H P) : EvP.Gives (tAndV ta tb) σ H P := fun H1 e Q q =>
  h H1 e _ fun v H2 e2 ev => ⟨true, ev, (by
    show tb σ H2 Q
    exact k H2 (e.trans e2) Q fun u H3 e3 hu => q u H3 (e2.trans e3) hu)⟩
theorem st_ifF (h : Tst tt σ H false) (k : ∀ H1, Ex H H1 → u D σ H1) : tSeq (tIfS tt t tNext) u D σ H := h H (Ex.refl H) _ k
theorem st_ifT (h : Tst tt σ H true) (k : ∀ H1, Ex H H1 → t { D with nx := u D } σ H1) : tSeq (tIfS tt t tNext) u D σ H := h H (Ex.refl H) _ k
/-- the last statement of a block -/
theorem st_ifF1 (h : Tst tt σ H false) (k : ∀ H1, Ex H H1 → D.nx σ H1) : tIfS tt t tNext D σ H := h H (Ex.refl H) _ k
end
end Cm

set_option Elab.async false
set_option linter.all false
set_option maxRecDepth 100000
set_option maxHeartbeats 4000000
/-! A walk over a text. -/
namespace Cm
open PySem PySem.Spec PyProof.Rows L2 EvP
section
variable {K : PySem.W.Frag} {σ : L2.St} {H : Hp} {te : TE}
theorem walks_str {x : Str} {ss : List Str} (h : EvP.Gives te σ H (is (.str x))) (e : x.cps.toList.map (fun c => (⟨#[c]⟩ : Str)) = ss) : Walks (iStr te) σ H (ss.map V.str) := fun H1 e1 R r =>
  h H1 e1 _ fun v H2 e2 ev => ⟨x, ev, by
    subst e
    refine r _ _ e2 ⟨fun _ => True, ⟨fun i H hi _ => by
      show i < x.cps.size
      simpa using hi, fun H _ => by simp [Its], fun i H v H' hi _ y => ?_⟩, fun _ _ => trivial⟩
    obtain ⟨rfl, c, hc, rfl⟩ := y
    refine ⟨rfl, ?_⟩
    simp [hc]⟩
end
end Cm

set_option Elab.async false
set_option linter.all false
set_option maxRecDepth 100000
set_option maxHeartbeats 4000000
set_option autoImplicit false
/-! The law's own looks at words. -/
namespace Wd
open PySem PySem.NumText PySem.Spec PyProof.Rows L2 EvP Cm Fk
open Dg hiding numT
theorem dp_strs {K : PySem.W.Frag} {H : Hp} : ∀ ss : List Str, DpAll K H (ss.map V.str) (ss.map PyData.str)
  | [] => .nil
  | s :: r => .cons (.str s) (dp_strs r)
theorem lay_strs : ∀ {ss : List Str}, (∀ s ∈ ss, PyData.strOk s = true) → PyData.canLayAll0 (ss.map PyData.str) = true
  | [], _ => rfl
  | s :: r, h => by
    show (PyData.strOk s && PyData.canLayAll0 (r.map PyData.str)) = true
    rw [h s (.head _), lay_strs fun y hy => h y (.tail _ hy)]
    rfl
theorem depth_strs : ∀ ss : List Str, PyData.depthAll (ss.map PyData.str) = 0
  | [] => rfl
  | s :: r => by
    show max 0 (PyData.depthAll (r.map PyData.str)) = 0
    rw [depth_strs r]
    rfl
theorem shaped_strsL {ss : List Str} (h : ∀ s ∈ ss, PyData.strOk s = true) : SeqAt.shaped (.list (ss.map PyData.str)) = true := by
  show (PyData.canLayAll0 (ss.map PyData.str) && decide (PyData.depthAll (ss.map PyData.str) + 1 ≤ 64)) = true
  rw [lay_strs h, depth_strs]
  rfl
theorem eqv_strs_nil (ss : List Str) : PyData.eqv (.list (ss.map PyData.str)) (.list []) = ss.isEmpty := by
  cases ss <;> rfl
theorem lst_is {H0 : Hp} {vs : List V} {v : V} {H : Hp} (h : (lst H0 (vs.map is)).R v H) : (lstV vs).R v H := by
  obtain ⟨a, ws, e, ha, _, hs⟩ := h
  exact ⟨a, e, by rw [← all2_is hs]; exact ha⟩
section
variable {K : PySem.W.Frag} {σ : L2.St} {H : Hp} {ta tb te : TE}
theorem g_eqNil {ss : List Str} (h : EvP.Gives ta σ H (lstV (ss.map V.str))) (o : ∀ s ∈ ss, PyData.strOk s = true) : EvP.Gives (tOp (rEqD K) ta (tLst tNil)) σ H (is (.bl ss.isEmpty)) :=
  g_op (R := lstV []) h (Fk.Gives.imp (EvP.list (H0 := H) (Ps := ([] : List V).map is) (Ex.refl _) EvP.nil (by show 0 ≤ 1000; decide)) fun v H h => lst_is h) fun x y H1 e ⟨a, ex, ha⟩ ⟨b, ey, hb⟩ Q q => by
    subst ex
    subst ey
    refine ⟨.list (ss.map PyData.str), .list [], .lst (SqL.of ha) (dp_strs _), .lst (SqL.of hb) .nil, shaped_strsL o, rfl, ?_⟩
    rw [eqv_strs_nil]
    exact q _ _ (Ex.refl _) rfl
end
/-- the signs of a text that are not in z -/
def odds (z x : Str) : List Str := (tl x).map (fun c => (⟨#[c]⟩ : Str)) |>.filter fun s => !decide (s.cps.toList.headD 0 ∈ tl z)
def keepO (z : Str) : V → Bool := fun v => match v with
  | .str s => !decide (s.cps.toList.headD 0 ∈ tl z)
  | _ => false
theorem odds_keep (z x : Str) : ((((tl x).map (fun c => (⟨#[c]⟩ : Str))).map V.str).filter (keepO z)).map id = (odds z x).map V.str := by
  rw [List.map_id, List.filter_map]
  rfl
theorem odds_empty (z x : Str) : (odds z x).isEmpty = (tl x).all (fun c => decide (c ∈ tl z)) := by
  unfold odds
  rw [Bool.eq_iff_iff, List.isEmpty_iff, List.filter_eq_nil_iff, List.all_eq_true]
  refine ⟨fun h c hc => ?_, fun h s hs => ?_⟩
  · have := h ⟨#[c]⟩ (List.mem_map_of_mem hc)
    simpa using this
  · obtain ⟨c, hc, rfl⟩ := List.mem_map.mp hs
    have := h c hc
    simpa using this
theorem odds_ok {z x : Str} (a : ∀ c ∈ tl x, c < 128) : ∀ s ∈ odds z x, PyData.strOk s = true := fun s hs => by
  unfold odds at hs
  obtain ⟨c, hc, rfl⟩ := List.mem_map.mp (List.mem_filter.mp hs).1
  unfold PyData.strOk
  have := a c hc
  simp
  omega
/-- the signs of a word that are not in z, read -/
theorem g_odds {σ : L2.St} {H : Hp} {z x : Str} (h0 : σ[0]? = some (some (.str x))) (l : σ.length = 2) (hl : x.length ≤ 9000) (hv : ∀ y, wipe ((wipe σ [1]).set 1 (some y)) [1] = wipe σ [1]) (h1 : ∀ y, ((wipe σ [1]).set 1 (some y))[1]? = some (some y)) :
    EvP.Gives (tLc (iStr (tVar 0)) (gName 1) (tTest (tOp rNotInS (tVar 1) (tC (.str z)))) (tVar 1) [1]) σ H (lstV ((odds z x).map V.str)) := by
  rw [← odds_keep]
  refine comp_isB (keepO z) id (walks_str (EvP.var h0) rfl) (by rw [List.length_map, List.length_map, len_cps]; omega) hv (fun y hy H3 e3 Q h => ?_) (fun y hy _ => EvP.var (h1 y))
  obtain ⟨s, hs, rfl⟩ := List.mem_map.mp hy
  obtain ⟨c, hc, rfl⟩ := List.mem_map.mp hs
  exact ⟨_, h1 _, c, z, rfl, rfl, _, rfl, h⟩
abbrev az : Str := "abcdefghijklmnopqrstuvwxyz"
abbrev d9 : Str := "0123456789"
theorem name_az (x : Str) (h1 : 1 ≤ x.length) (h8 : x.length ≤ 8) (hin : inV (.str x) [.str "none", .str "self"] = false) : (tl x).all (fun c => decide (c ∈ tl az)) = nameB x := by
  have tA : ∀ c, c < 128 → c ∈ tl az → Unicode.isAlpha c = true ∧ Unicode.isLower c = true ∧ (Unicode.isUpper c || Unicode.isTitle c) = false := by decide +kernel
  have tB : ∀ c, c < 128 → Unicode.isAlpha c = true → (Unicode.isUpper c || Unicode.isTitle c) = false → c ∈ tl az := by decide +kernel
  have lt : ∀ c, c ∈ tl az → c < 128 := by decide +kernel
  unfold nameB
  rw [hin, decide_eq_true (by omega), Bool.eq_iff_iff]
  simp only [Bool.true_and, Bool.not_false, Bool.and_eq_true, List.all_eq_true, decide_eq_true_eq]
  unfold Txt.isascii Txt.isalpha Txt.islower
  simp only [Bool.and_eq_true, ← Array.all_toList, ← Array.any_toList, List.all_eq_true, decide_eq_true_eq, Bool.not_eq_true', List.any_eq_false, List.any_eq_true]
  refine ⟨fun h => ⟨⟨fun c hc => lt c (h c hc), by omega, fun c hc => (tA c (lt c (h c hc)) (h c hc)).1⟩, ?_, fun c hc => ?_⟩, fun ⟨⟨a1, _, a2⟩, _, a3⟩ c hc => tB c (a1 c hc) (a2 c hc) ?_⟩
  · have : 0 < (tl x).length := by rw [len_cps]; omega
    exact ⟨(tl x)[0], List.getElem_mem this, (tA _ (lt _ (h _ (List.getElem_mem this))) (h _ (List.getElem_mem this))).2.1⟩
  · rw [(tA c (lt c (h c hc)) (h c hc)).2.2]
    exact Bool.false_ne_true
  · have := a3 c hc
    simpa using this
theorem amt_d9 (x : Str) : (tl x).all (fun c => decide (c ∈ tl d9)) = (tl x).all (fun c => decide (48 ≤ c ∧ c ≤ 57)) := by
  have e : ∀ c, decide (c ∈ tl d9) = decide (48 ≤ c ∧ c ≤ 57) := fun c => by
    rw [decide_eq_decide]
    show c ∈ [48, 49, 50, 51, 52, 53, 54, 55, 56, 57] ↔ _
    simp only [List.mem_cons, List.not_mem_nil, or_false]
    omega
  exact congrArg (fun p => (tl x).all p) (funext e)
end Wd

set_option Elab.async false
set_option linter.all false
set_option maxRecDepth 100000
set_option maxHeartbeats 1000000
/-! sorted(xs, key=f), f giving texts: over the heap alone, then as a rule of the hand layer with f = str. -/
namespace KyS
open PySem PySem.W PySem.Calls PyProof.Rows
/-- h' has all of h's objects but the one at a -/
def But (a : Addr) (h h' : Heap) : Prop := ∀ b o, b ≠ a → h.get? b = some o → h'.get? b = some o
theorem But.kept {a : Addr} {h h' h2 : Heap} (k : But a h h') (g : ∀ b o, h'.get? b = some o → h2.get? b = some o) : But a h h2 := fun b o n e => g _ _ (k b o n e)
def Strs (vs : List Value) (ks : List Str) : Prop := EachIs (fun v k => ∃ t, v = Value.str k t) vs ks
theorem Strs.reads {h : Heap} : ∀ {vs : List Value} {ks : List Str}, Strs vs ks → EachIs (fun v d => ∃ as, Reads h v d as) vs (ks.map PyData.str)
  | _, _, .nil => .nil
  | _, _, .cons ⟨t, e⟩ r => .cons ⟨[], by rw [e]; exact .str _ _⟩ (Strs.reads r)
theorem alikeT (ks : List Str) : AllAlike (ks.map PyData.str) := AllAlike.of fun b b' => by simp [alike]
theorem sortableT (ks : List Str) : Sortable (ks.map PyData.str) := Sortable.others fun b => ⟨nofun, fun xs => nofun⟩
/-- what is left: the values that stand for bs, by their keys -/
def Out (kz : List Str) (vs out : List Value) : Prop := ∃ (h : Heap) (ks : List Value), Strs ks kz ∧ out = sortVals (dataKind h (kz.map PyData.str)) false ks vs
theorem Out.each {β : Type} {R : Value → β → Prop} {bs : List β} {vs out : List Value} (k : β → Str) (h : Out (bs.map k) vs out) (hR : EachIs R vs bs) : EachIs R out (bs.mergeSort (dataLe false fun b => PyData.str (k b))) := by
  obtain ⟨hp, ks, hs, rfl⟩ := h
  have e1 : EachIs (fun v d => ∃ as, Reads hp v d as) ks ((bs.map k).map PyData.str) := hs.reads
  have e2 := each_keys (alikeT (bs.map k)) e1
  have e3 : (bs.map k).map PyData.str = bs.map fun b => PyData.str (k b) := by rw [List.map_map]; rfl
  have e4 : ∀ l, l = (bs.map k).map PyData.str → EachIs (fun v d => (dataKind hp ((bs.map k).map PyData.str)).keyOf v = some (keyToks d)) ks l := fun l q => q ▸ e2
  exact sortVals_each (κ := dataKind hp ((bs.map k).map PyData.str)) (fun b => keyToks (PyData.str (k b))) hR (each_of_map (fun b => PyData.str (k b)) (e4 _ e3.symm))
theorem Out.length {kz : List Str} {vs out : List Value} (h : Out kz vs out) (hl : kz.length = vs.length) : out.length = vs.length := by
  obtain ⟨hp, ks, hs, rfl⟩ := h
  exact sortVals_length false (hs.length.trans hl)
section
variable {prog : Program} {w : World} {A : Around} {E : Value → Shared → Prop} {s : Shared} {a kS : Addr} {vs : List Value} {keys : Array Value} {kz : List Str} {h0 : Heap} {e e1 : Nat} {P : PySem.Fin → Shared → Prop}
theorem tail_at {st : SortSt} {out : List Value} (kA : s.heap.get? a = some (seqObj "list" #[] e1)) (kK : s.heap.get? kS = some (seqObj "list" keys e)) (ne : kS ≠ a) (hz : keys.size ≤ sizeLine) (ho : out.length ≤ sizeLine) (hf : failedOf st = none)
    (eo : (arrOf st).map (·.2) = out.toArray) (h : ∀ h' c, (∀ b o, b ≠ a → b ≠ kS → s.heap.get? b = some o → h'.get? b = some o) → h'.get? a = some (seqObj "list" out.toArray c) → P (.done (.ret .none)) { s with heap := h' }) :
    wpAny (model prog w) A (ksk_tail a false e1 (.ref kS) st) P E s := by
  obtain ⟨c1, g1⟩ : ∃ c1, (s.heap.update kS (Obj.mapSeq fun _ => (#[] : Array Value))).get? kS = some (seqObj "list" #[] c1) := ⟨_, get?_update_seq kK fun _ => #[]⟩
  have g2 : (s.heap.update kS (Obj.mapSeq fun _ => (#[] : Array Value))).get? a = some (seqObj "list" #[] e1) := by rw [Heap.get?_update_ne _ _ _ _ (Ne.symm ne)]; exact kA
  obtain ⟨c2, g3⟩ : ∃ c2, ((s.heap.update kS (Obj.mapSeq fun _ => (#[] : Array Value))).update a (Obj.mapSeq fun _ => out.toArray)).get? a = some (seqObj "list" out.toArray c2) := ⟨_, get?_update_seq g2 fun _ => out.toArray⟩
  unfold ksk_tail
  dsimp only
  simp only [Bool.false_eq_true, if_false, eo]
  refine wpAny_bind (listUpdate_at kK rfl (wpAny_bind (wpAny_letGo (wpAny_bind (seqEpoch_at g2 rfl (wpAny_bind (listUpdate_at g2 rfl ?_ (Nat.zero_le _) (by rw [List.size_toArray]; omega))))))) hz (Nat.zero_le _))
  rw [hf]
  simp only [bne_self_eq_false, Bool.false_eq_true, if_false]
  exact wpAny_pure (h _ c2 (fun b o n1 n2 q => by rw [Heap.get?_update_ne _ _ _ _ n1, Heap.get?_update_ne _ _ _ _ n2]; exact q) g3)
theorem end_at (kA : s.heap.get? a = some (seqObj "list" #[] e1)) (kK : s.heap.get? kS = some (seqObj "list" keys e)) (ne : kS ≠ a) (hk : Strs keys.toList kz) (hl : kz.length = vs.length) (hz : vs.length ≤ sizeLine) (hu : A.units + 2 < cLine)
    (h : ∀ h' c out, (∀ b o, b ≠ a → b ≠ kS → s.heap.get? b = some o → h'.get? b = some o) → h'.get? a = some (seqObj "list" (List.toArray out) c) → Out kz vs out → P (.done (.ret .none)) { s with heap := h' }) :
    wpAny (model prog w) A (ksk_end a false vs.toArray e1 (.ref kS) keys) P E s := by
  have kl : keys.toList.length = vs.length := hk.length.trans hl
  have ks' : keys.size = vs.length := by rw [← Array.length_toList]; exact kl
  have S : SortsAt prog w A s (dataKind s.heap (kz.map PyData.str)) keys.toList := SortsAt.data hk.reads (alikeT kz) (sortableT kz) fun d hd => by
    obtain ⟨k, _, rfl⟩ := List.mem_map.mp hd
    show A.units + 0 < cLine
    omega
  obtain ⟨kd, L1, L2⟩ := S.kind
  have KO : PyProof.Rows.KeysOf (dataKind s.heap (kz.map PyData.str)) (keys.zip vs.toArray) := keysOf_zip S.keys
  have O : Out kz vs (sortVals (dataKind s.heap (kz.map PyData.str)) false keys.toList vs) := ⟨s.heap, keys.toList, hk, rfl⟩
  have fin : ∀ st : SortSt, (arrOf st).Perm (keys.zip vs.toArray) → SortedToK (dataKind s.heap (kz.map PyData.str)) (arrOf st) (keys.zip vs.toArray).size → Stable (dataKind s.heap (kz.map PyData.str)) (arrOf st) (keys.zip vs.toArray) → failedOf st = none →
      wpAny (model prog w) A (ksk_tail a false e1 (.ref kS) st) P E s := fun st p1 p2 p3 p4 => by
    have z := sort_out (rev := false) (keys := keys) (items := vs.toArray) (xs := arrOf st) KO p1 p2 p3
    have z2 : (arrOf st).map (·.2) = (sortVals (dataKind s.heap (kz.map PyData.str)) false keys.toList vs).toArray := by
      have y := congrArg List.toArray z
      rw [Array.toArray_toList] at y
      exact y
    exact tail_at kA kK ne (by omega) (by rw [O.length hl]; exact hz) p4 z2 fun h' c q1 q2 => h h' c _ q1 q2 O
  have zs : (keys.zip vs.toArray).size = vs.length := by rw [Array.size_zip, ks', List.size_toArray, Nat.min_self]
  unfold ksk_end
  dsimp only
  simp only [Bool.false_eq_true, if_false]
  by_cases c : vs.toArray.size < 2
  · rw [if_pos c, if_pos c]
    refine wpAny_bind (wpAny_pure ?_)
    rw [StateT.run_pure]
    refine wpAny_bind (wpAny_pure ?_)
    refine fin (SortSt.mk' general' (keys.zip vs.toArray) #[] 7 none) (Array.Perm.refl _) (fun i j i1 i2 => ?_) (Stable.refl _) rfl
    rw [List.size_toArray] at c
    rw [zs] at i2
    have : i = j := by omega
    subst this
    exact KeyOrd.kle_refl _
  · rw [if_neg c, if_neg c]
    rw [List.size_toArray] at c
    have L3 : ∀ {Q : SortKind → Shared → Prop}, Q kd s → wpAny (model prog w) A (keyKind' keys) Q E s := fun {Q} q => by
      have z := L2 (by omega) E (Q := Q) q
      rw [Array.toArray_toList] at z
      exact z
    refine wpAny_bind (L3 ?_)
    refine wpAny_bind (wpAny_mono (H.wpS_sortRunsSt (st := SortSt.mk' kd (keys.zip vs.toArray) #[] 7 none) (Q := fun _ st => failedOf st = none ∧ (arrOf st).Perm (keys.zip vs.toArray) ∧ SortedToK (dataKind s.heap (kz.map PyData.str)) (arrOf st) (keys.zip vs.toArray).size ∧ Stable (dataKind s.heap (kz.map PyData.str)) (arrOf st) (keys.zip vs.toArray))
      L1 KO ⟨Array.Perm.refl _, rfl, rfl⟩ rfl (Stable.refl _) (by omega) fun st p1 p2 p3 p4 => ⟨p2, p1, p3, p4⟩) ?_ fun _ _ z => z)
    rintro ⟨⟨⟩, st⟩ s' ⟨rfl, p1, p2, p3, p4⟩
    exact fin st p2 p3 p4 p1
end
end KyS

set_option Elab.async false
set_option linter.all false
set_option maxRecDepth 100000
set_option maxHeartbeats 1000000
namespace KyS
open PySem PySem.W PySem.Calls PyProof.Rows
theorem Strs.snoc {k : Str} {t : Tok} : ∀ {vs : List Value} {ks : List Str}, Strs vs ks → Strs (vs ++ [.str k t]) (ks ++ [k])
  | _, _, .nil => .cons ⟨t, rfl⟩ .nil
  | _, _, .cons h r => .cons h (Strs.snoc r)
/-- what f gives of an item -/
def Turns (prog : Program) (w : World) (A : Around) (s : Shared) (a : Addr) (f : Value) (vs : List Value) (kz : List Str) : Prop :=
  ∀ (i : Nat) (v : Value) (k : Str), vs[i]? = some v → kz[i]? = some k → ∀ (h : Heap) (tk : Nat), But a s.heap h →
    wpAny (model prog w) A (call f [v]) (fun r s2 => ∃ t h' tk', r = .str k t ∧ s2 = { s with heap := h', toks := tk' } ∧ ∀ b o, h.get? b = some o → h'.get? b = some o) (fun _ _ => False) { s with heap := h, toks := tk }
section
variable {prog : Program} {w : World} {A : Around} {E : Value → Shared → Prop} {s s0 : Shared} {a kS : Addr} {vs : List Value} {kz : List Str} {e1 : Nat} {f : Value} {P : PySem.Fin → Shared → Prop}
theorem rest_at (K : ∀ b o, b ≠ a → s0.heap.get? b = some o → b ≠ kS ∧ s.heap.get? b = some o) (es : s = { s0 with heap := s.heap, toks := s.toks }) (kA : s.heap.get? a = some (seqObj "list" #[] e1)) (kK : s.heap.get? kS = some (seqObj "list" #[] 0)) (ne : kS ≠ a) (hl : kz.length = vs.length) (hz : vs.length ≤ sizeLine) (hu : A.units + 2 < cLine) (T : Turns prog w A s0 a f vs kz)
    (h : ∀ h' tk c out, But a s0.heap h' → h'.get? a = some (seqObj "list" (List.toArray out) c) → Out kz vs out → P (.done (.ret .none)) { s0 with heap := h', toks := tk }) :
    wpAny (model prog w) A (ksk_rest a f false vs.toArray e1 (.ref kS)) P E s := by
  rw [es]
  unfold ksk_rest
  refine wpAny_bind (wpAny_rule ?_)
  first
    | rw [List.forIn_toArray]
    | (rw [← Array.forIn_toList]; simp only [List.toList_toArray])
  refine wpAny_bind (ksk_fold (fun i s' => ∃ h' tk kA' e', s' = { s0 with heap := h', toks := tk } ∧ But a s0.heap h' ∧ (∀ b o, b ≠ a → s0.heap.get? b = some o → b ≠ kS) ∧ h'.get? a = some (seqObj "list" #[] e1) ∧ h'.get? kS = some (seqObj "list" kA' e') ∧ Strs kA'.toList (kz.take i)) vs 0 _
    ⟨s.heap, s.toks, #[], 0, rfl, fun b o n q => (K b o n q).2, fun b o n q => (K b o n q).1, kA, kK, by rw [List.take_zero]; exact .nil⟩ ?step ?done)
  case step =>
    rintro j x s' hx ⟨h', tk, kA', e', rfl, k1, k2, k3, k4, k5⟩
    rw [Nat.zero_add] at k5 ⊢
    have hj : j < vs.length := (List.getElem?_eq_some_iff.mp hx).1
    obtain ⟨k, hk⟩ : ∃ k, kz[j]? = some k := ⟨_, List.getElem?_eq_getElem (by omega)⟩
    have z : kA'.size ≤ vs.length := by
      have y := k5.length
      rw [Array.length_toList, List.length_take] at y
      omega
    refine wpAny_bind (wpAny_attempt (wpAny_mono (T j x k hx hk h' tk k1) (fun v s2 hv => ?_) fun _ _ y => y.elim))
    obtain ⟨t, g, tk2, rfl, rfl, kg⟩ := hv
    dsimp only
    have gK := kg _ _ k4
    obtain ⟨c2, gk2⟩ : ∃ c2, (g.update kS (Obj.mapSeq (·.push (.str k t)))).get? kS = some (seqObj "list" (kA'.push (.str k t)) c2) := ⟨_, get?_update_seq gK (·.push (.str k t))⟩
    refine wpAny_bind (listUpdate_at gK rfl (wpAny_pure ⟨rfl, _, _, kA'.push (.str k t), c2, rfl, fun b o n q => ?_, k2, ?_, gk2, ?_⟩) (Nat.le_trans z hz) (by rw [Array.size_push]; omega))
    · rw [Heap.get?_update_ne _ _ _ _ (k2 b o n q)]
      exact kg _ _ (k1 b o n q)
    · rw [Heap.get?_update_ne _ _ _ _ (Ne.symm ne)]
      exact kg _ _ k3
    · have e3 : kz.take (j + 1) = kz.take j ++ [k] := by rw [List.take_add_one, hk]; rfl
      rw [e3, Array.toList_push]
      exact k5.snoc
  case done =>
    rintro s' ⟨h', tk, kA', e', rfl, k1, k2, k3, k4, k5⟩
    rw [Nat.zero_add, ← hl, List.take_length] at k5
    refine wpAny_bind (listItems_at k4 rfl ?_)
    exact end_at (s := { s0 with heap := h', toks := tk }) k3 k4 ne k5 hl hz hu fun h2 c out q1 q2 q3 => h h2 tk c out (fun b o n q => q1 b o n (k2 b o n q) (k1 b o n q)) q2 q3
theorem tree_at {n : Nat} (ho : s.heap.get? a = some (seqObj "list" vs.toArray n)) (hl : kz.length = vs.length) (hz : vs.length ≤ sizeLine) (hu : A.units + 2 < cLine) (T : Turns prog w A s a f vs kz)
    (h : ∀ h' tk c out, But a s.heap h' → h'.get? a = some (seqObj "list" (List.toArray out) c) → Out kz vs out → P (.done (.ret .none)) { s with heap := h', toks := tk }) :
    wpAny (model prog w) A (ksk_tree a f false) P E s := by
  obtain ⟨e1, g1⟩ : ∃ e1, (s.heap.update a (Obj.mapSeq fun _ => (#[] : Array Value))).get? a = some (seqObj "list" #[] e1) := ⟨_, get?_update_seq ho fun _ => #[]⟩
  have sz : ((s.heap.update a (Obj.mapSeq fun _ => (#[] : Array Value))).push (seqObj "tuple" vs.toArray 0)).objs.size = s.heap.objs.size + 1 := by rw [size_push', Heap.size_update]
  have la := Heap.lt_size ho
  unfold ksk_tree
  refine wpAny_bind (listItems_at ho rfl (wpAny_bind (listUpdate_at ho rfl (wpAny_bind (seqEpoch_at g1 rfl (wpAny_bind (wpAny_newTuple (wpAny_bind (wpAny_newList (wpAny_holding ?_) (Nat.zero_le _))) (by show vs.length ≤ _; exact hz))))) (by rw [List.size_toArray]; exact hz) (Nat.zero_le _))))
  refine rest_at (s0 := s) (s := { s with heap := ((s.heap.update a (Obj.mapSeq fun _ => (#[] : Array Value))).push (seqObj "tuple" vs.toArray 0)).push (seqObj "list" #[] 0) }) (fun b o n q => ⟨?_, ?_⟩) rfl (Heap.get?_push_of_some _ (Heap.get?_push_of_some _ g1)) (Heap.get?_push_size _ rfl) ?_ hl hz hu T h
  · rw [sz]
    exact Nat.ne_of_lt (Nat.lt_succ_of_lt (Heap.lt_size q))
  · refine Heap.get?_push_of_some _ (Heap.get?_push_of_some _ ?_)
    rw [Heap.get?_update_ne _ _ _ _ n]
    exact q
  · rw [sz]
    exact Nat.ne_of_gt (Nat.lt_succ_of_lt la)
/-- sorted(xs, key=f) -/
theorem sorted_at {l : Addr} {Q : Value → Shared → Prop} (hL : s.heap.IsList l vs.toArray) (hl : kz.length = vs.length) (hz : vs.length ≤ sizeLine) (hu : A.units + 8 < cLine)
    (ht : ∀ x, Builtin.«list.sort» ⟨[.ref x], [(Str.ofString "key", f)]⟩ = ksk_tree x f false)
    (T : ∀ (h : Heap) (D : Addr), (∀ b o, s.heap.get? b = some o → b ≠ D ∧ h.get? b = some o) → Turns prog w A.in1.in1 { s with heap := h } D f vs kz)
    (h : ∀ h' tk c out, (∀ b o, s.heap.get? b = some o → h'.get? b = some o) → s.heap.objs.size ≤ s.heap.objs.size + 1 → h'.get? (s.heap.objs.size + 1) = some (seqObj "list" (List.toArray out) c) → Out kz vs out → Q (.ref (s.heap.objs.size + 1)) { s with heap := h', toks := tk }) :
    wpAny (model prog w) A (call (.builtin "sorted") [.ref l] [(Str.ofString "key", f)]) Q E s := by
  refine sorted_of_sort hL hz (ksk_s1 _ _) (fun x => ksk_l1 _ _) fun E' => ?_
  rw [ht]
  have nn : ∀ b o, s.heap.get? b = some o → b ≠ s.heap.objs.size + 1 := fun b o q => Nat.ne_of_lt (Nat.lt_succ_of_lt (Heap.lt_size q))
  exact tree_at (s := { s with heap := copyHeap s.heap vs }) (copyHeap_at s.heap vs) hl hz (by show A.units + 1 + 1 + 2 < cLine; omega) (T _ _ fun b o q => ⟨nn b o q, copyHeap_old q⟩)
    fun h' tk c out k1 k2 k3 => ⟨rfl, h h' tk c out (fun b o q => k1 b o (nn b o q) (copyHeap_old q)) (Nat.le_succ _) k2 k3⟩
end
end KyS

set_option Elab.async false
set_option linter.all false
set_option maxRecDepth 100000
set_option maxHeartbeats 1000000
namespace KyS
open PySem PySem.Spec PyProof.Rows L2
/-- str(x) is k -/
inductive KeyV (H : Hp) : V → Str → Prop
  | str (x : Str) : KeyV H (.str x) x
  | tup {a : Addr} {xs : List V} {ds : List PyData} : H a = some (.tup xs) → DqAll a H xs ds → (PyData.tuple ds).showable = true → (PyData.tuple ds).depth ≤ 60 → (PyData.tuple ds).shown.length ≤ 100000 → KeyV H (.ref a) (PyData.tuple ds).shown
/-- xs, sorted by their texts -/
def byKey (key : V → Str) (xs : List V) : List V := xs.mergeSort (PySem.W.dataLe false fun x => PyData.str (key x))
def rSortK (K : PySem.W.Frag) : List V → List V → Hp → VK → Prop := fun vs zs H Q => ∃ (a : Addr) (xs : List V) (key : V → Str), vs = [.ref a] ∧ zs = [.ty "str"] ∧ SqL K H a xs ∧ (∀ x ∈ xs, KeyV H x (key x)) ∧ ∀ p, H p = none → Q (.ref p) (upd H p (.lst (byKey key xs)))
section
variable {X : Cx}
theorem each_of_vals : ∀ {xs : List V} {us : List Value}, Vals xs us → PySem.W.EachIs (fun u x => RelV x u) us xs
  | _, _, .nil => .nil
  | _, _, .cons h t => .cons h (each_of_vals t)
theorem vals_of_each : ∀ {xs : List V} {us : List Value}, PySem.W.EachIs (fun u x => RelV x u) us xs → Vals xs us
  | _, _, .nil => .nil
  | _, _, .cons h t => .cons h (vals_of_each t)
theorem each_get {α β : Type} {R : α → β → Prop} : ∀ {as : List α} {bs : List β}, PySem.W.EachIs R as bs → ∀ {i : Nat} {a : α} {b : β}, as[i]? = some a → bs[i]? = some b → R a b
  | _, _, .nil, i, a, b, h, _ => by simp at h
  | _, _, .cons r t, 0, a, b, h, k => by
    cases h
    cases k
    exact r
  | _, _, .cons r t, i + 1, a, b, h, k => each_get t (by simpa using h) (by simpa using k)
theorem cr_sortedStr (hg : X.A.guards = some []) (hu : X.A.units + 80 < cLine) : CallRK X (.builtin "sorted") [Str.ofString "key"] (rSortK X.K) := by
  intro pins s σ H vs zs us ws Q I r rz h
  obtain ⟨a, xs, key, rfl, rfl, hs, hk, q⟩ := h
  obtain rfl := Vals.ref1 r
  obtain ⟨w1, rfl, e1⟩ := vals1 rz
  obtain rfl : w1 = Value.type "str" := e1
  obtain ⟨its, rv, hl, hz⟩ := I.list hs
  have ev := each_of_vals rv
  refine sorted_at (vs := its) (kz := xs.map key) hl.isList (by rw [List.length_map]; exact rv.length) (by rw [← rv.length]; exact hz) (by omega) (fun _ => rfl) (fun h D k i v k0 hv hk0 h1 tk hb => ?_) fun h' tk c out k1 _ k2 k3 => ?_
  · rw [List.getElem?_map] at hk0
    obtain ⟨x, hx, rfl⟩ := Option.map_eq_some_iff.mp hk0
    have rx : RelV x v := each_get ev hv hx
    have kp : ∀ b o, s.heap.get? b = some o → h1.get? b = some o := fun b o z => hb b o (k b o z).1 (k b o z).2
    have kx := hk x (List.mem_of_getElem? hx)
    generalize key x = y at kx
    cases kx with
    | str x =>
      obtain ⟨t, rfl⟩ := rx
      exact PySem.P.str_of_str ⟨t, h1, tk, rfl, rfl, fun _ _ z => z⟩
    | @tup b ys ds h2 h3 h4 h5 h6 =>
      cases rx
      obtain ⟨_, us, rus, o, g, cl, n, dt⟩ := (show ObjOk X.prog X.w H s.heap _ (.tup _) from I.hok _ _ h2)
      obtain ⟨as, rd, nm⟩ := DqAll.reads I ds _ us h3 rus
      have R : Reads s.heap (.ref b) (.tuple ds) as := Reads.tuple g cl dt (by simpa using rd)
      exact str_of_reads R h4 (fun _ => nm) hg (by show X.A.units + 1 + 1 + _ < cLine; omega) kp (fun h2 u tk2 k5 => ⟨u, h2, tk2, rfl, rfl, k5⟩) (by rw [sizeLine_eq]; omega)
  · have ee := k3.each key ev
    have vv : Vals (byKey key xs) out := vals_of_each ee
    have lz : (byKey key xs).length ≤ sizeLine := by
      unfold byKey
      rw [(List.mergeSort_perm _ _).length_eq]
      exact hz
    exact ⟨.ref _, upd H (s.heap.objs.size + 1) (.lst (byKey key xs)), I.laid (t' := tk) k1 (Nat.le_succ _) ⟨lz, out, c, vv, k2⟩, rfl, q _ (I.hok.fresh (Nat.le_succ _))⟩
end
end KyS

set_option Elab.async false
set_option linter.all false
set_option maxRecDepth 100000
set_option maxHeartbeats 1000000
/-! d == e, dicts whose keys are tuples. -/
namespace DtE
open PySem PySem.Calls PyProof.Rows PyProof.V
section
variable {prog : Program} {w : World} {K : Type} [DecidableEq K] {knd : HeapKind prog w K} {A : Around} {E : Value → Shared → Prop} {s : Shared}
abbrev Ent (K : Type) := List (K × Addr × Value)
inductive Hits (A : Around) (s : Shared) (B : Ent K) : Ent K → Bool → Prop
  | nil : Hits A s B [] true
  | miss {x : K × Addr × Value} {r : Ent K} : atKey B x.1 = none → Hits A s B (x :: r) false
  | hit {x : K × Addr × Value} {p : Addr × Value} {r : Ent K} {e b : Bool} : atKey B x.1 = some p → SeqAt.EqAt A s x.2.2 p.2 e → Hits A s B r b → Hits A s B (x :: r) (e && b)
theorem same {nm : String} {a b : Addr} {xa xb : Ent K} {r : Bool} {Q : Bool → Shared → Prop} (hu : knd.room A) (na : (a == sysModules) = false) (nb : (b == sysModules) = false) (da : s.heap.DictOfH knd a xa) (db : s.heap.DictOfH knd b xb)
    (hits : xa.length = xb.length → Hits A s xb xa r) (h : Q (xa.length == xb.length && r) s) : wpAny (model prog w) A (Builtin.Dict.samePairs nm a b) Q E s := by
  obtain ⟨oa, ea, pa, ga, _, ta, la, ia, _⟩ := da
  obtain ⟨ob, eb, pb, gb, _, tb, lb, ib, ub⟩ := db
  have za := size_of_entries la
  have zb := size_of_entries lb
  rw [← za, ← zb] at h
  unfold Builtin.Dict.samePairs Builtin.Dict.showsAll
  rw [if_neg (show ¬ (a == sysModules) = true by rw [na]; decide), if_neg (show ¬ (b == sysModules) = true by rw [nb]; decide)]
  refine wpAny_bind (wpAny_pure (wpAny_bind (wpAny_pure (wpAny_bind (wpAny_dictEntries ga ta ?_)))))
  refine wpAny_bind (wpAny_dictEntries gb tb ?_)
  by_cases hz : ea.size = eb.size
  case neg =>
    rw [if_pos (by simpa using hz)]
    rw [show (ea.size == eb.size) = false by simpa using hz, Bool.false_and] at h
    exact wpAny_bind (wpAny_rule (wpAny_pure h))
  case pos =>
    have q : Q r s := by simpa [hz] using h
    have g := hits (by rw [← za, ← zb]; exact hz)
    rw [if_neg (by rw [hz]; simp)]
    refine wpAny_bind (wpAny_dictEpoch ga ta (wpAny_bind ?_))
    rw [Std.Legacy.Range.forIn_eq_forIn_range']
    simp only [Std.Legacy.Range.size, Nat.sub_zero, Nat.add_sub_cancel, Nat.div_one]
    refine wpAny_forIn_list _ (fun rest p s' => s' = s ∧ p = (none, ()) ∧ ∃ i, rest = List.range' i (ea.size - i) ∧ i ≤ ea.size ∧ Hits A s xb (xa.drop i) r) _ ?_ ?_ _ _ ⟨rfl, rfl, 0, by simp, Nat.zero_le _, g⟩
    · rintro x rest p s' ⟨rfl, rfl, i, hr, hi, hp⟩
      have lt : i < ea.size := by
        rcases Nat.lt_or_ge i ea.size with z | z
        · exact z
        · rw [Nat.sub_eq_zero_of_le z] at hr
          simp at hr
      have e1 : ea.size - i = (ea.size - (i + 1)) + 1 := by omega
      rw [e1, List.range'_succ] at hr
      obtain ⟨rfl, hr2⟩ := List.cons.inj hr
      have lt' : x < xa.length := by rw [← za]; exact lt
      obtain ⟨y, hy⟩ : ∃ y, xa[x] = y := ⟨_, rfl⟩
      have hd : xa.drop x = y :: xa.drop (x + 1) := by rw [← hy]; exact List.drop_eq_getElem_cons lt'
      have ex : ea[x]? = some (entryOfKey knd y) := by rw [entry_at la x, List.getElem?_eq_getElem lt', hy]; rfl
      have iy : knd.is s'.heap y.1 y.2.1 := ia y (by rw [← hy]; exact List.getElem_mem lt')
      rw [hd] at hp
      refine wpAny_bind (wpAny_dictEntries ga ta ?_)
      rw [ex]
      show wpAny _ _ (holding [(entryOfKey knd y).key, (entryOfKey knd y).val] _ >>= _) _ _ _
      refine wpAny_bind (wpAny_holding (wpAny_bind ?_))
      refine wpAny_dictFind_heap hu iy gb tb lb ib ub (fun hno => ?_) fun j p hj => ?_
      · have hn := atKey_none_of_get hno
        cases hp with
        | miss _ =>
          refine wpAny_pure ?_
          show wpAny _ _ (if (!false) = true then _ else _) _ _ _
          rw [if_pos (by decide)]
          exact wpAny_pure (wpAny_pure q)
        | hit h1 _ _ =>
          rw [hn] at h1
          cases h1
      · have hn := atKey_of_get ub hj
        refine wpAny_bind (wpAny_dictEntries gb tb ?_)
        rw [entry_at lb j, hj]
        cases hp with
        | miss h1 =>
          rw [hn] at h1
          cases h1
        | @hit _ p' _ e b' h1 h2 h3 =>
          rw [hn] at h1
          obtain rfl := Option.some.inj h1
          refine wpAny_holding (h2 prog w _ _ ?_)
          cases e with
          | false =>
            show wpAny _ _ (if (!false) = true then _ else _) _ _ _
            rw [if_pos (by decide)]
            exact wpAny_pure (wpAny_pure (by simpa using q))
          | true =>
            show wpAny _ _ (if (!true) = true then _ else _) _ _ _
            rw [if_neg (by decide)]
            refine wpAny_bind (wpAny_dictEpoch ga ta ?_)
            rw [if_neg (by simp)]
            exact wpAny_pure ⟨rfl, rfl, x + 1, hr2, lt, by simpa using h3⟩
    · rintro p s' ⟨rfl, rfl, i, hr, hi, hp⟩
      have e1 : i = ea.size := by
        rcases Nat.lt_or_ge i ea.size with z | z
        · have e2 : ea.size - i = (ea.size - (i + 1)) + 1 := by omega
          rw [e2, List.range'_succ] at hr
          cases hr
        · exact Nat.le_antisymm hi z
      rw [e1, za, List.drop_length] at hp
      cases hp
      exact wpAny_pure q
theorem eq_at {a b : Addr} {xa xb : Ent K} {r : Bool} {Q : Value → Shared → Prop} (hr : knd.room A.in1) (na : (a == sysModules) = false) (nb : (b == sysModules) = false) (da : s.heap.DictOfH knd a xa) (db : s.heap.DictOfH knd b xb) (hu : A.units < cLine)
    (hits : xa.length = xb.length → Hits A.in1 s xb xa r) (h : Q (.bool (xa.length == xb.length && r)) s) : wpAny (model prog w) A (compareOp .Eq (.ref a) (.ref b)) Q E s := by
  refine wpAny_richCompare_same_room (op := .Eq) da.typeIs db.typeIs PySem.F.slot_dict_eq (wpAny_call_entry PySem.F.slot_dict_eq da.typeIs PySem.F.entry_dict_eq ?_ (PySem.F.args_dict_eq_2 _ _)) hu
  show wpAny _ _ (Builtin.Dict.dictSlotArgs "__eq__" ⟨[.ref a, .ref b], []⟩ >>= _) _ _ s
  unfold Builtin.Dict.dictSlotArgs
  refine wpAny_bind (wpAny_bind (wpAny_notOrdered_dict da.typeIs (by
    show wpAny _ _ (pure (Value.ref a, Value.ref b)) _ _ s
    refine wpAny_pure (wpAny_bind (wpAny_isInstance (T := "dict") db.typeIs PySem.F.sub_dict_dict ?_))
    simp only [Bool.not_true, Bool.false_eq_true, if_false]
    refine wpAny_bind (wpAny_pure (wpAny_bind (wpAny_pure (wpAny_bind (same hr na nb da db hits ?_)))))
    exact wpAny_pure ⟨_, rfl, (by intro x; cases x), by simpa using h⟩)))
end
end DtE
namespace DtE
open PySem PySem.Spec PyProof.Rows L2
/-- amounts by tuples -/
abbrev TRow := List (List Key × Int)
def tents (r : TRow) : List (List Key × V) := r.map fun t => (t.1, .int t.2)
def lookT (r : TRow) (k : List Key) : Option Int := (r.find? fun t => decide (t.1 = k)).map (·.2)
def sameT (a b : TRow) : Bool := a.length == b.length && a.all fun t => decide (lookT b t.1 = some t.2)
theorem valV_tents (k : List Key) : ∀ r : TRow, valV (tents r) k = (lookT r k).map V.int
  | [] => rfl
  | t :: r => by
    have ih := valV_tents k r
    unfold tents lookT at ih ⊢
    by_cases e : t.1 = k
    · rw [List.map_cons, valV_pos e, List.find?_cons, decide_eq_true e] <;> rfl
    · rw [List.map_cons, valV_neg e, ih, List.find?_cons, decide_eq_false e]
theorem hits_of {H : Hp} {A : Around} {s : Shared} {b : TRow} {xb : List (List Key × Addr × Value)} (rb : KT H (tents b) xb) : ∀ {a : TRow} {xa : List (List Key × Addr × Value)}, KT H (tents a) xa → Hits A s xb xa (a.all fun t => decide (lookT b t.1 = some t.2))
  | [], _, r => by
    cases r
    exact .nil
  | t :: a, _, r => by
    cases r with
    | @cons _ q _ _ h h2 =>
      obtain ⟨e1, _, ev⟩ := h
      have ih := hits_of (A := A) (s := s) rb h2
      have z := rb.val t.1
      rw [valV_tents] at z
      rw [List.all_cons]
      cases c : lookT b t.1 with
      | none =>
        rw [c] at z
        have z2 : atKey xb q.1 = none := by
          rw [← e1]
          cases y : atKey xb t.1 with
          | none => rfl
          | some p =>
            rw [y] at z
            exact z.elim
        exact .miss z2
      | some n =>
        rw [c] at z
        cases y : atKey xb t.1 with
        | none =>
          rw [y] at z
          exact z.elim
        | some p =>
          rw [y] at z
          obtain ⟨u, eu⟩ : ∃ u, p.2 = Value.int n u := z
          obtain ⟨u2, eu2⟩ : ∃ u, q.2.2 = Value.int t.2 u := ev
          have eq : SeqAt.EqAt A s q.2.2 p.2 (decide (t.2 = n)) := by
            have f := PySem.W.keq_flat (A := A) (s := s) (v := q.2.2) (y := p.2) (d := .int t.2) (e := .int n) (by rw [eu2]; exact PyProof.V.Flat.int _ _) (by rw [eu]; exact PyProof.V.Flat.int _ _)
            have e3 : PyData.eqv (.int t.2) (.int n) = decide (t.2 = n) := by
              by_cases w : t.2 = n
              · simp [PyData.eqv, w]
              · simp [PyData.eqv, w]
            rw [e3] at f
            exact f
          have e4 : decide (some n = some t.2) = decide (t.2 = n) := by
            by_cases w : t.2 = n
            · rw [w, decide_eq_true rfl, decide_eq_true rfl]
            · rw [decide_eq_false w, decide_eq_false fun h => w (Option.some.inj h).symm]
          rw [e4]
          exact .hit (p := p) (by rw [← e1]; exact y) eq ih
def rEqT : R2 := fun x y H Q => ∃ (a b : Addr) (r r' : TRow), x = .ref a ∧ y = .ref b ∧ H a = some (.dT (tents r)) ∧ H b = some (.dT (tents r')) ∧ Q (.bl (sameT r r')) H
theorem op_eqT {X : Cx} (hu : X.A.units + 1 < cLine) : OpR X (compareOp .Eq) rEqT := by
  intro pins s σ H x y v u Q I rx ry h
  obtain ⟨a, b, r, r', rfl, rfl, ha, hb, q⟩ := h
  cases rx
  cases ry
  obtain ⟨_, na, xa, ra, da⟩ := dt_of I.hok ha
  obtain ⟨_, nb, xb, rb, db⟩ := dt_of I.hok hb
  refine eq_at (knd := tupleKind (mixKind X.prog X.w)) (by show X.A.units + 1 < cLine; exact hu) na nb da db (by omega) (fun _ => hits_of rb ra) ?_
  have l1 : xa.length = r.length := by rw [← Paired.length ra]; exact List.length_map _
  have l2 : xb.length = r'.length := by rw [← Paired.length rb]; exact List.length_map _
  exact fin_bl I q (by rw [l1, l2]; rfl)
end DtE

set_option Elab.async false
set_option linter.all false
set_option maxRecDepth 100000
set_option maxHeartbeats 4000000
/-! is_pair, ascending, pairs in the order of their texts; defs that keep promises while nothing is being shown. -/
namespace Fk
open PySem PySem.Spec PyProof.Rows L2
abbrev sPair : Stmt := top 20
theorem scPair : FnScope ["value"] ["value"] (defScope sPair) := ⟨rfl, rfl, rfl, by decide +kernel, rfl, by decide +kernel, by decide +kernel⟩
/-- a list or a tuple -/
def SqA (K : PySem.W.Frag) (H : Hp) (a : Addr) (xs : List V) : Prop := SqL K H a xs ∨ SqT K H a xs
/-- more built-ins that are still themselves -/
structure BltR (mg : Str → Option Value) : Prop where
  list : mg "list" = none
  tuple : mg "tuple" = none
end Fk
namespace XG
open PySem PySem.Spec PyProof.Rows L2
section
variable {P : Program} {w : World} {K : PySem.W.Frag} {mg : Str → Option Value} {base : Heap} {x qual : Str} {f : Addr} {fd : FuncData} {N ps : List Str} {k : Nat} {sp : Sp}
theorem Fun.okGX {st : Stmt} (F : Fun K x qual st f fd) (S : FnScope N ps (defScope st)) (len : ∀ vs H Q E, sp vs H Q E → vs.length = ps.length)
    (walk : ∀ (cdv : Value) (A : Around) (outer : List Env) (s : Shared) (H : Hp) (vs : List V) (Q : VK) (E : XK), A.guards = some [] → Room k (A.deeper (envOfC qual (defScope st) s.heap.objs.size f cdv)) → sp vs H Q E →
      ∃ t, PSs (cxOf (L2.CX P w) P w K mg base N qual (defScope st) f cdv A outer s H E) (defBody st) t ∧ t { nx := fun _ H' => Q .non H', rt := Q } (start N vs) H) : FnG P w K mg base (L2.CX P w) (k + 1) f fd ps sp := by
  obtain ⟨oc, od, kV, doc, pm, an, cdv, ct, osl, rfl, lk, hcd⟩ := F.ex
  exact fnG_of lk hcd S len fun A outer s H vs Q E gd room h => walk cdv A outer s H vs Q E gd room h
theorem FunD.okGX {params : Arguments} {body : List Stmt} {scope : Scope} {dvs : List V} {kws : List (Str × V)} (F : FunD K x qual params body scope dvs kws f fd) (S : FnScope N ps scope) (len : ∀ vs H Q E, sp vs H Q E → vs.length = ps.length)
    (walk : ∀ (cdv : Value) (A : Around) (outer : List Env) (s : Shared) (H : Hp) (vs : List V) (Q : VK) (E : XK), A.guards = some [] → Room k (A.deeper (envOfC qual scope s.heap.objs.size f cdv)) → sp vs H Q E →
      ∃ t, PSs (cxOf (L2.CX P w) P w K mg base N qual scope f cdv A outer s H E) body t ∧ t { nx := fun _ H' => Q .non H', rt := Q } (start N vs) H) : FnG P w K mg base (L2.CX P w) (k + 1) f fd ps sp := by
  obtain ⟨oc, od, dV, kV, doc, pm, an, cdv, ct, osl, rfl, lk, hcd, _, _⟩ := F.ex
  exact fnG_of lk hcd S len fun A outer s H vs Q E gd room h => walk cdv A outer s H vs Q E gd room h
/-- what raises nothing where it is asked so -/
theorem FnG.calm {sp' : Sp} (F : FnG P w K mg base (L2.CX P w) k f fd ps sp) (h : ∀ vs H Q E, sp' vs H Q E → sp vs H Q E0) : FnG P w K mg base CX0 k f fd ps sp' := fun A outer s H args us vs Q E gd room e0 bd r q => by
  refine codeAny_mono (F A outer s H args us vs Q E0 gd room e0 bd r (h _ _ _ _ q)) fun r s' z => ?_
  cases r with
  | ok fl => cases fl <;> exact z
  | error e =>
    obtain ⟨_, _, _, _, _, _, _, _, _, _, _, _, z⟩ := z
    exact z.elim
end
section
variable {X : Cx} {x : Str} {f C : Addr} {fd : FuncData} {k : Nat} {ps : List Str} {sp : Sp} {e : Expr} {es : List Expr} {t : TA} {p pos : Pos} {E : XK}
/-- the call of a def that may raise: what it lets out is E's business -/
theorem pe_callGX (F : FnG X.prog X.w X.K X.mg X.base (L2.CX X.prog X.w) k f fd ps sp) (len : ∀ vs H Q E, sp vs H Q E → vs.length = ps.length) (gd : X.A.guards = some []) (hr : Room k X.A) (hg : Gl X x) (hm : X.mg x = some (.ref f)) (hk : PySem.W.keepIn X.K (.ref f) = true) (hb : Binds X.K fd ps [])
    (hx : ∀ σ, PassesAt (L2.CX X.prog X.w) X σ E) (ha : PA X (e :: es) t) (hdb : (x == ("__debug__" : Str)) = false := by decide) (he : starEach (e :: es) X.env = (false, eval e X.env) :: starEach es X.env := by rfl) (hpl : (backTo pos (starEach es X.env)).any (·.1) = false := by rfl) :
    PE X (.Call (.Name x p) (e :: es) [] pos) (tCall sp [] E t) := by
  refine ⟨fun pins s σ H Q I h => wpAny_Call_Name_kw (ld_glob I hg hm (PySem.W.callWith_K (h₀ := X.base) I.ok.mod.kin hk (thn (ha.run pos pins s σ H _ I h) fun us s1 ⟨vs, H1, I1, r, q⟩ => ⟨I1.kIn, ?_⟩) he hpl) hdb)⟩
  replace q : sp vs H1 Q E := by
    have z : sp (vs ++ []) H1 Q E := q
    rw [List.append_nil] at z
    exact z
  have n : (us ++ []).length = ps.length := by rw [List.append_nil, ← r.length]; exact len _ _ _ _ q
  refine wpAny_call (codeAny_mono (F X.A X.stack s1 H1 ⟨us, []⟩ (us ++ []) vs Q E gd hr I1.env0 (hb s1 us I1.kIn n) (by rw [List.append_nil]; exact r) q) fun r' s' z => ?_)
  cases r' with
  | error e => exact hx σ pins H1 s1 e s' I1 z
  | ok fl => cases fl with
    | ret u => exact I1.after z
    | _ => exact (show False from z).elim
theorem run_makeGX {pins : List (Addr × Obj)} {σ : L2.St} {H : Hp} {s : Shared} {Q : VK} {us : List Value} {vs : List V} (M : Mk X.K C f) (F : FnG X.prog X.w X.K X.mg X.base (L2.CX X.prog X.w) k f fd ps sp) (len : ∀ vs H Q E, sp vs H Q E → vs.length = ps.length) (gd : X.A.guards = some []) (hr : Room (k + 1) X.A) (hb : Binds X.K fd ps [])
    (hx : ∀ σ, PassesAt (L2.CX X.prog X.w) X σ E) (I : Inv X pins σ H s) (r : Vals vs us) (h : ∀ x dx, H x = none → H dx = none → dx ≠ x → sp (.ref x :: vs) (upd (upd H dx (.own x)) x (.ins C dx [])) (fun v H2 => v = .non ∧ Q (.ref x) H2) E) : wpAny (model X.prog X.w) X.A (call (.ref C) us) (EP X pins σ Q) X.xe s := by
  have q := h (s.heap.objs.size + 1) s.heap.objs.size (I.hok.fresh (Nat.le_succ _)) (I.hok.fresh (Nat.le_refl _)) (Nat.ne_of_lt (Nat.lt_succ_self _))
  have J := Inv.made (C := C) I
  have rr : Vals (V.ref (s.heap.objs.size + 1) :: vs) (Value.ref (s.heap.objs.size + 1) :: us) := .cons rfl r
  have n : (Value.ref (s.heap.objs.size + 1) :: us ++ []).length = ps.length := by rw [List.append_nil, ← rr.length]; exact len _ _ _ _ q
  refine wpAny_call (make_map (f := f) I.kIn M.makes M.init (beq_iff_eq.mp M.fn) (codeAny_mono (F _ X.stack _ _ ⟨Value.ref (s.heap.objs.size + 1) :: us, []⟩ (Value.ref (s.heap.objs.size + 1) :: us ++ []) _ _ E gd (hr.make C us []) (J.env0.make C us []) (hb _ (Value.ref (s.heap.objs.size + 1) :: us) J.kIn n) (by rw [List.append_nil]; exact rr) q) fun r' s' z => ?_))
  cases r' with
  | error e => exact hx σ pins _ _ e s' J z
  | ok fl => cases fl with
    | ret u =>
      obtain ⟨v, H', I3, rv, ev, q3⟩ := J.after z
      subst ev
      exact ⟨rv, V.ref (s.heap.objs.size + 1), H', I3, rfl, q3⟩
    | _ => exact (show False from z).elim
def tMakeGX (C : Addr) (sp : Sp) (E : XK) (t : TA) : TE := fun σ H Q => t σ H fun vs H1 => ∀ x dx, H1 x = none → H1 dx = none → dx ≠ x → sp (.ref x :: vs) (upd (upd H1 dx (.own x)) x (.ins C dx [])) (fun v H2 => v = .non ∧ Q (.ref x) H2) E
theorem pe_makeGX (M : Mk X.K C f) (F : FnG X.prog X.w X.K X.mg X.base (L2.CX X.prog X.w) k f fd ps sp) (len : ∀ vs H Q E, sp vs H Q E → vs.length = ps.length) (gd : X.A.guards = some []) (hr : Room (k + 1) X.A) (hb : Binds X.K fd ps []) (hx : ∀ σ, PassesAt (L2.CX X.prog X.w) X σ E) (hg : Gl X x) (hm : X.mg x = some (.ref C))
    (ha : PA X (e :: es) t) (hdb : (x == ("__debug__" : Str)) = false := by decide) (he : starEach (e :: es) X.env = (false, eval e X.env) :: starEach es X.env := by rfl) (hpl : (backTo pos (starEach es X.env)).any (·.1) = false := by rfl) : PE X (.Call (.Name x p) (e :: es) [] pos) (tMakeGX C sp E t) := by
  refine ⟨fun pins s σ H Q I h => wpAny_Call_Name_kw (ld_glob I hg hm ?_ hdb)⟩
  exact PySem.W.callWith_K (h₀ := X.base) I.ok.mod.kin M.kp (thn (ha.run pos pins s σ H _ I h) fun us s1 ⟨vs, H1, I1, r, q⟩ => ⟨I1.kIn, run_makeGX M F len gd hr hb hx I1 r q⟩) he hpl
end
end XG
namespace Tb
open PySem PySem.Spec PyProof.Rows L2 EvP Cm Fk DtE KyS XG
def key2 (a x : Str) : List Key := [Sum.inr a, Sum.inr x]
theorem SqL.typ {K : PySem.W.Frag} {H : Hp} {a : Addr} {xs : List V} (h : SqL K H a xs) : TyX K H (.ref a) (.type "list") := by
  rcases h with (h | ⟨o, h⟩) | ⟨o, its, n, h, c, _⟩
  · exact .base (.lst h)
  · exact .base (.frz h)
  · exact .kList h c
theorem SqT.typ {K : PySem.W.Frag} {H : Hp} {a : Addr} {xs : List V} (h : SqT K H a xs) : TyX K H (.ref a) (.type "tuple") := by
  rcases h with (h | ⟨o, h⟩) | ⟨o, its, n, h, c, _⟩
  · exact .base (.tup h)
  · exact .fTuple h
  · exact .kTuple h c
theorem SqL.keep {K : PySem.W.Frag} {H H' : Hp} {a : Addr} {xs : List V} (e : Ex H H') (h : SqL K H a xs) : SqL K H' a xs := by
  rcases h with (h | ⟨o, h⟩) | h
  · exact .inl (.inl (e _ _ h))
  · exact .inl (.inr ⟨o, e _ _ h⟩)
  · exact .inr h
theorem SqT.keep {K : PySem.W.Frag} {H H' : Hp} {a : Addr} {xs : List V} (e : Ex H H') (h : SqT K H a xs) : SqT K H' a xs := by
  rcases h with (h | ⟨o, h⟩) | h
  · exact .inl (.inl (e _ _ h))
  · exact .inl (.inr ⟨o, e _ _ h⟩)
  · exact .inr h
theorem SqA.keep {K : PySem.W.Frag} {H H' : Hp} {a : Addr} {xs : List V} (e : Ex H H') (h : SqA K H a xs) : SqA K H' a xs := h.elim (fun h => .inl (SqL.keep e h)) fun h => .inr (SqT.keep e h)
section
variable {P : Program} {w : World} {K : PySem.W.Frag} {mg : Str → Option Value} {base : Heap} {f fN : Addr} {fd fdN : FuncData}
/-- is_pair of a pair of names -/
def spPair (K : PySem.W.Frag) : Sp := fun vs H Q _ => ∃ (p : Addr) (a x : Str), vs = [.ref p] ∧ H p = some (.tup [.str a, .str x]) ∧ NameV (.str a) ∧ NameV (.str x) ∧ Q (.bl true) H
theorem ok_pair (F : Fun K "is_pair" "is_pair" sPair f fd) (T : Blt mg) (R : BltR mg) (G : FnOk P w K mg base CX0 1 fN fdN ["value"] (spName K)) (b : Binds K fdN ["value"] []) (gN : mg "is_name" = some (.ref fN)) (kN : PySem.W.keepIn K (.ref fN) = true) :
    FnOk P w K mg base CX0 2 f fd ["value"] (spPair K) := by
  refine F.ok scPair (fun vs H Q E h => ?_) (fun cdv A outer s H vs Q E hr h => ?_)
  · obtain ⟨p, a, x, rfl, _⟩ := h
    rfl
  · obtain ⟨p, a, x, rfl, h, ⟨y, ey, na, na2⟩, ⟨z, ez, nx, nx2⟩, q⟩ := h
    cases ey
    cases ez
    refine ⟨_, pss_one (ps_ret (pe_and (pe_callB call_isi (by rfl) T.isi (by decide +kernel) (pa_cons (pv 0) (pa_cons (pe_bltn (v := .ty "tuple") (by rfl) R.tuple (by decide +kernel) rfl) pa_nil)))
      (pe_and (pe_cmpR op_eq (pe_callB call_len_seq (by rfl) T.len PySem.boot_len (pa_cons (pv 0) pa_nil)) pe_int (nomark _))
      (pe_and (pe_call G hr (by rfl) gN kN b .nil pass0 (pa_cons (pe_ix ix_tup (pv 0) pe_int (fun _ _ => rfl)) pa_nil))
      (pe_one (pe_call G hr (by rfl) gN kN b .nil pass0 (pa_cons (pe_ix ix_tup (pv 0) pe_int (fun _ _ => rfl)) pa_nil))))))), ?_⟩
    refine ⟨_, rfl, _, _, _, _, true, rfl, .ty _, .base (.tup h), kit_ty (by decide +kernel), _, rfl, ?_⟩
    refine ⟨_, rfl, p, _, rfl, .inr (SqT.of h), ?_⟩
    refine ⟨rfl, _, rfl, ?_⟩
    rw [show decide (V.int (([V.str a, V.str x].length : Nat) : Int) = V.int 2) = true from decide_eq_true rfl, if_pos rfl]
    refine ⟨_, rfl, p, _, _, _, rfl, rfl, SqT.of h, atI_nat (xs := [V.str a, V.str x]) (j := 0) rfl, _, rfl, .inl ⟨a, rfl, na, _, rfl, ?_⟩⟩
    rw [na2, if_pos rfl]
    refine ⟨_, rfl, p, _, _, _, rfl, rfl, SqT.of h, atI_nat (xs := [V.str a, V.str x]) (j := 1) rfl, _, rfl, .inl ⟨x, rfl, nx, ?_⟩⟩
    rw [nx2]
    exact q
end
abbrev sAsc : Stmt := top 23
theorem scAsc : FnScope ["values"] ["values"] (defScope sAsc) := ⟨rfl, rfl, rfl, by decide +kernel, rfl, by decide +kernel, by decide +kernel⟩
/-- the key of a text -/
def keyS : V → Str
  | .str x => x
  | _ => ⟨#[]⟩
theorem byKey_strs (ns : List Str) : byKey keyS (ns.map V.str) = (srt ns).map V.str := by
  unfold byKey srt
  rw [PySem.W.dataLe_str]
  exact (PySem.W.sort_maps (r := fun a b : Str => decide (a.cps.toList ≤ b.cps.toList)) (s := fun a b : V => decide ((keyS a).cps.toList ≤ (keyS b).cps.toList)) V.str fun _ _ _ _ => rfl).symm
theorem KeyV.strs {H : Hp} (ns : List Str) : ∀ x ∈ ns.map V.str, KeyV H x (keyS x) := fun x hx => by
  obtain ⟨n, _, rfl⟩ := List.mem_map.mp hx
  exact .str n
def spAsc (K : PySem.W.Frag) : Sp := fun vs H Q _ => ∃ (a : Addr) (xs : List V) (key : V → Str), vs = [.ref a] ∧ SqL K H a xs ∧ (∀ x ∈ xs, KeyV H x (key x)) ∧ ∀ p H', Ex H H' → H p = none → H' p = some (.tup (byKey key xs)) → Q (.ref p) H'
theorem spAsc_len {K : PySem.W.Frag} : ∀ vs H Q E, spAsc K vs H Q E → vs.length = (["values"] : List Str).length := fun vs H Q E h => by
  obtain ⟨a, xs, key, rfl, _⟩ := h
  rfl
theorem pe_callG {X : Cx} {x : Str} {f : Addr} {fd : FuncData} {k : Nat} {ps : List Str} {sp : Sp} {e : Expr} {es : List Expr} {t : TA} {p pos : Pos} (F : XG.FnG X.prog X.w X.K X.mg X.base CX0 k f fd ps sp) (len : ∀ vs H Q E, sp vs H Q E → vs.length = ps.length) (gd : X.A.guards = some []) (hr : Room k X.A) (hg : Gl X x) (hm : X.mg x = some (.ref f)) (hk : PySem.W.keepIn X.K (.ref f) = true) (hb : Binds X.K fd ps [])
    (ha : PA X (e :: es) t) (hdb : (x == ("__debug__" : Str)) = false := by decide) (he : starEach (e :: es) X.env = (false, eval e X.env) :: starEach es X.env := by rfl) (hpl : (backTo pos (starEach es X.env)).any (·.1) = false := by rfl) :
    PE X (.Call (.Name x p) (e :: es) [] pos) (tCall sp [] E0 t) := by
  refine ⟨fun pins s σ H Q I h => wpAny_Call_Name_kw (ld_glob I hg hm ?_ hdb)⟩
  refine PySem.W.callWith_K (h₀ := X.base) I.ok.mod.kin hk (thn (ha.run pos pins s σ H _ I h) fun us s1 ⟨vs, H1, I1, r, q⟩ => ⟨I1.kIn, ?_⟩) he hpl
  replace q : sp vs H1 Q E0 := by
    have z : sp (vs ++ []) H1 Q E0 := q
    rw [List.append_nil] at z
    exact z
  have n : (us ++ []).length = ps.length := by rw [List.append_nil, ← r.length]; exact len _ _ _ _ q
  refine wpAny_call (codeAny_mono (F X.A X.stack s1 H1 ⟨us, []⟩ (us ++ []) vs Q E0 gd hr I1.env0 (hb s1 us I1.kIn n) (by rw [List.append_nil]; exact r) q) fun r' s' hq => ?_)
  cases r' with
  | error e => exact (show False from hq).elim
  | ok fl =>
    cases fl with
    | ret u => exact I1.after hq
    | next => exact False.elim hq
    | brk => exact False.elim hq
    | cont => exact False.elim hq
section
variable {P : Program} {w : World} {K : PySem.W.Frag} {mg : Str → Option Value} {base : Heap} {f fA fU : Addr} {fd fdA fdU : FuncData}
theorem ok_asc (F : Fun K "ascending" "ascending" sAsc f fd) (T : Blt mg) (T2 : Blt2 mg) : FnG P w K mg base CX0 1 f fd ["values"] (spAsc K) := by
  refine Fun.okG F scAsc spAsc_len fun cdv A outer s H vs Q E gd hr h => ?_
  obtain ⟨a, xs, key, rfl, hs, hk, q⟩ := h
  have hu := hr.un
  refine ⟨_, pss_one (ps_ret (pe_tupleOf (by rfl) T2.tuple (pe_callBK (cr_sortedStr gd (by show A.units + 3 + 80 < cLine; have : A.units + 3 + 16 * 0 + 200 < cLine := hu; omega)) (by rfl) T2.sorted (by decide +kernel) (pa_cons (pv 0) pa_nil) (pk_cons (pe_bltn (v := .ty "str") (by rfl) T.str (by decide +kernel) rfl) pk_nil)))), ?_⟩
  refine ⟨_, rfl, a, xs, key, rfl, rfl, hs, hk, fun p hp => .inl ⟨p, _, rfl, SqL.of upd_same, fun p2 hp2 => q p2 _ ((Ex.new hp).trans (Ex.new hp2)) ((Ex.new hp).back hp2) upd_same⟩⟩
end
def toD : Key → PyData
  | .inl i => .int i
  | .inr x => .str x
def dOf : V → PyData
  | .str x => .str x
  | .int i => .int i
  | _ => .none
theorem dOf_kV (k : Key) : dOf (kV k) = toD k := by cases k <;> rfl
/-- a key as Python shows it -/
def textK (k : List Key) : Str := (PyData.tuple (k.map toD)).shown
def leK : List Key → List Key → Bool := PySem.W.dataLe false fun k => PyData.str (textK k)
def sortK (ks : List (List Key)) : List (List Key) := ks.mergeSort leK
def keyH (H : Hp) : V → Str
  | .ref b => match H b with
    | some (.tup ys) => (PyData.tuple (ys.map dOf)).shown
    | _ => ⟨#[]⟩
  | _ => ⟨#[]⟩
theorem keyH_of {H : Hp} {b : Addr} {k : List Key} (h : H b = some (.tup (k.map kV))) : keyH H (.ref b) = textK k := by
  unfold keyH textK
  show (match H b with
    | some (.tup ys) => (PyData.tuple (ys.map dOf)).shown
    | _ => ⟨#[]⟩) = _
  rw [h]
  show (PyData.tuple ((k.map kV).map dOf)).shown = _
  rw [List.map_map, show dOf ∘ kV = toD from funext dOf_kV]
theorem name_small {x : Str} (h : nameB x = true) : x.length ≤ 8 ∧ ∀ c ∈ x.cps.toList, c < 16 ^ 8 := by
  unfold nameB at h
  simp only [Bool.and_eq_true, decide_eq_true_eq] at h
  refine ⟨by have := h.1.1.1.1; omega, fun c hc => ?_⟩
  have a := h.1.1.2
  unfold Txt.isascii at a
  rw [← Array.all_toList, List.all_eq_true] at a
  have := of_decide_eq_true (a c hc)
  exact Nat.lt_trans this (by decide)
theorem text_len {a x : Str} (ha : nameB a = true) (hx : nameB x = true) : (textK (key2 a x)).length ≤ 100000 := by
  obtain ⟨a1, a2⟩ := name_small ha
  obtain ⟨x1, x2⟩ := name_small hx
  have b1 := StrLaws.reprText_len a a2
  have b2 := StrLaws.reprText_len x x2
  show (("(" : Str) ++ Str.join ", " [reprText a, reprText x] ++ ((")" : String) : Str)).length ≤ 100000
  have j := join_length_add [reprText a, reprText x] (by simp)
  rw [piled_cons, piled_cons] at j
  have z : piled [] = 0 := rfl
  rw [strLen_append, strLen_append, show (("(" : String) : Str).length = 1 from rfl, show ((")" : String) : Str).length = 1 from rfl]
  omega
/-- keys that are pairs of names -/
def PairK (k : List Key) : Prop := ∃ a x, k = key2 a x ∧ NameV (.str a) ∧ NameV (.str x)
theorem keyV_of {H : Hp} {b : Addr} {k : List Key} (h : H b = some (.tup (k.map kV))) (p : PairK k) : KeyV H (.ref b) (keyH H (.ref b)) := by
  rw [keyH_of h]
  obtain ⟨a, x, rfl, ⟨y, ey, _, ha⟩, ⟨z, ez, _, hx⟩⟩ := p
  cases ey
  cases ez
  exact .tup (ds := [.str a, .str x]) h (.cons (.str a) (.cons (.str x) .nil)) rfl (by show (1 : Nat) ≤ 60; decide) (text_len ha hx)
theorem all2_keys {H : Hp} : ∀ {l : List (List Key × Addr)}, (∀ p ∈ l, H p.2 = some (.tup (p.1.map kV))) → All2 H ((l.map (·.1)).map fun k => tupV (k.map kV)) (l.map fun p => V.ref p.2)
  | [], _ => .nil
  | p :: l, h => .cons ⟨p.2, rfl, h p (.head _)⟩ (all2_keys fun q hq => h q (.tail _ hq))
theorem zip_keys {H : Hp} : ∀ {kvs : List (List Key × V)} {bs : List Addr}, IsKeys H kvs bs → (∀ p ∈ (kvs.map (·.1)).zip bs, H p.2 = some (.tup (p.1.map kV))) ∧ ((kvs.map (·.1)).zip bs).map (·.1) = kvs.map (·.1) ∧ ((kvs.map (·.1)).zip bs).map (fun p => V.ref p.2) = bs.map V.ref
  | _, _, .nil => ⟨(fun p hp => by cases hp), rfl, rfl⟩
  | _, _, .cons h t => by
    obtain ⟨h1, h2, h3⟩ := zip_keys t
    refine ⟨fun p hp => ?_, ?_, ?_⟩
    · rcases List.mem_cons.mp hp with rfl | hp
      · exact h
      · exact h1 p hp
    · show _ :: _ = _ :: _
      exact congrArg _ h2
    · show _ :: _ = _ :: _
      exact congrArg _ h3
theorem asc_pairs {H : Hp} {r : TRow} {bs : List Addr} (h : IsKeys H (tents r) bs) (p : ∀ t ∈ r, PairK t.1) : (∀ x ∈ bs.map V.ref, KeyV H x (keyH H x)) ∧ All2 H ((sortK (r.map (·.1))).map fun k => tupV (k.map kV)) (byKey (keyH H) (bs.map V.ref)) := by
  obtain ⟨h1, h2, h3⟩ := zip_keys h
  have er : (tents r).map (·.1) = r.map (·.1) := by
    unfold tents
    rw [List.map_map]
    rfl
  rw [er] at h1 h2 h3
  generalize (r.map (·.1)).zip bs = L at h1 h2 h3
  rw [← h3, ← h2]
  refine ⟨fun x hx => ?_, ?_⟩
  · obtain ⟨q, hq, rfl⟩ := List.mem_map.mp hx
    refine keyV_of (h1 q hq) ?_
    have m : q.1 ∈ r.map (·.1) := by
      rw [← h2]
      exact List.mem_map.mpr ⟨q, hq, rfl⟩
    obtain ⟨t, ht, e⟩ := List.mem_map.mp m
    rw [← e]
    exact p t ht
  · have e1 : byKey (keyH H) (L.map fun p => V.ref p.2) = (L.mergeSort fun p q => leK p.1 q.1).map fun p => V.ref p.2 := by
      refine (PySem.W.sort_maps (fun p : List Key × Addr => V.ref p.2) fun a ha b hb => ?_).symm
      unfold leK
      rw [PySem.W.dataLe_str, PySem.W.dataLe_str]
      show decide ((textK a.1).cps.toList ≤ (textK b.1).cps.toList) = decide ((keyH H (V.ref a.2)).cps.toList ≤ (keyH H (V.ref b.2)).cps.toList)
      rw [keyH_of (h1 a ha), keyH_of (h1 b hb)]
    have e2 : sortK (L.map (·.1)) = (L.mergeSort fun p q => leK p.1 q.1).map (·.1) := (PySem.W.sort_maps (fun p : List Key × Addr => p.1) fun _ _ _ _ => rfl).symm
    rw [e1, e2]
    exact all2_keys fun q hq => h1 q ((List.mergeSort_perm _ _).mem_iff.mp hq)
end Tb

set_option Elab.async false
set_option linter.all false
set_option maxRecDepth 100000
set_option maxHeartbeats 4000000
/-! d.values(), d.items(), d a dict whose keys are tuples. -/
namespace L2
open PySem PySem.Spec PyProof.Rows
section
variable {X : Cx} {pins : List (Addr × Obj)} {σ : St} {H : Hp} {s : Shared} {d : Addr} {o : Obj}
theorem Inv.frzT2 {kvs : List (List Key × V)} (I : Inv X pins σ H s) (h : H d = some (.frz o (.dT kvs))) :
    (d == sysModules) = false ∧ s.heap.get? d = some o ∧ ∃ (es : Array DictEntry) (ep : Nat), o.data = .dict es ep ∧ s.heap.DictRaw d es ep ∧ es.size = kvs.length ∧
      ∀ (i : Nat) (k : List Key) (v : V) (hi : i < es.size), kvs[i]? = some (k, v) → ∃ q : Addr, es[i].key = .ref q ∧ H q = some (.tup (k.map kV)) ∧ RelV v es[i].val := by
  obtain ⟨hd, z, hs, xs, pr, o', es, ep, ho, hx, hdt, he, _⟩ := I.hok d _ h
  rw [hd] at ho
  cases ho
  refine ⟨hs, hd, es, ep, hdt, ⟨o, hd, hx, hdt⟩, ?_, fun i k v hi e => ?_⟩
  · have l1 : es.size = xs.length := size_of_entries he
    have l2 : kvs.length = xs.length := Paired.length pr
    omega
  · obtain ⟨b, hb, e1, e2, e3⟩ := paired_get pr e
    have q := entry_at he i
    rw [hb, Array.getElem?_eq_getElem hi] at q
    have q' := Option.some.inj q
    refine ⟨b.2.1, ?_, e2, ?_⟩
    · rw [q']
      rfl
    · rw [q']
      exact e3
end
/-- the values -/
def Itdt (d : Addr) (o : Obj) (kvs : List (List Key × V)) : It :=
  ⟨fun i H => H d = some (.frz o (.dT kvs)) ∧ i < kvs.length, fun i H x H' => H' = H ∧ ∃ k, kvs[i]? = some (k, x), fun i H => H d = some (.frz o (.dT kvs)) ∧ kvs.length ≤ i⟩
/-- the pairs, each a new tuple of the key's own tuple and the value -/
def Itit (d : Addr) (o : Obj) (kvs : List (List Key × V)) : It :=
  ⟨fun i H => H d = some (.frz o (.dT kvs)) ∧ i < kvs.length, fun i H x H' => ∃ (T : Addr) (k : List Key) (v : V) (q : Addr), kvs[i]? = some (k, v) ∧ x = .ref T ∧ H q = some (.tup (k.map kV)) ∧ H T = none ∧ H' = upd H T (.tup [.ref q, v]), fun i H => H d = some (.frz o (.dT kvs)) ∧ kvs.length ≤ i⟩
section
variable {P : Program} {w : World} {K : PySem.W.Frag} {tg : Expr} {d : Addr} {o : Obj} {es : Array DictEntry} {ep : Nat}
theorem turn_valsT {kvs : List (List Key × V)} (it : Addr) (hod : o.data = .dict es ep) : Turn P w K tg (Itdt d o kvs) [it] it (fun i h => h.IsValIter it d i kvs.length ep) where
  mem := by simp
  obj := fun i h st b hb => by
    have e : b = it := by simpa using hb
    subst e
    obtain ⟨oi, e, c, dd⟩ := st
    exact ⟨oi, e, fun v z => by rw [dd] at z; cases z⟩
  keep := fun i h h' st k => st.at fun oi e => k it (by simp) oi e
  item := by
    intro X hP hw hK hc i pins s σ H E I hf st hg
    subst hP hw hK
    obtain ⟨hd, hi⟩ := hg
    obtain ⟨f0, f1, f2, f3, f4, f5⟩ := hf it (by simp)
    obtain ⟨hs, hgd, es', ep', hdt, raw, hsz, ent⟩ := I.frzT2 hd
    obtain ⟨rfl, rfl⟩ := dict_ep hod hdt
    obtain ⟨⟨k, v⟩, hkv⟩ : ∃ p, kvs[i]? = some p := ⟨kvs[i], List.getElem?_eq_getElem hi⟩
    have hi' : i < es'.size := by omega
    obtain ⟨q, hkey, hq, rv⟩ := ent i k v hi' hkv
    rw [← hsz] at st
    refine wpAny_pyNext_values_item_raw st raw hi' fun h' st' sb => ?_
    have I1 : Inv X pins σ H { s with heap := h' } := I.turned (t' := s.toks) (fun b ob hb e => (sb.2 b hb).trans e) f0 f1 f3 f4 f5
    obtain ⟨oi, e, c, dd⟩ := id st'
    refine ⟨_, rfl, go_of (s := { s with heap := h' }) e c dd (by decide) ⟨v, H, I1, rv, ⟨rfl, k, hkv⟩, ?_, fun b hb => (hf b hb).1⟩⟩
    show h'.IsValIter it d (i + 1) kvs.length _
    rw [← hsz]
    exact st'
  done := by
    intro X hP hw hK hc i pins s σ H E I hf st hg
    subst hP hw hK
    obtain ⟨hd, hi⟩ := hg
    obtain ⟨f0, f1, f2, f3, f4, f5⟩ := hf it (by simp)
    obtain ⟨hs, hgd, es', ep', hdt, raw, hsz, ent⟩ := I.frzT2 hd
    obtain ⟨rfl, rfl⟩ := dict_ep hod hdt
    rw [← hsz] at st
    exact wpAny_pyNext_values_end_raw (I.ok.hd hc) st raw (by omega) fun h' eb => ⟨rfl, I.turned (t' := s.toks) (fun b ob hb e => eb b ob hb e) f0 f1 f3 f4 f5⟩
  self := fun A i s Q E st h => wpAny_pyIter_valiter st h
theorem turn_itemsT {kvs : List (List Key × V)} {elts : List Expr} {kk : Nat} {tpos : Pos} (it : Addr) (hod : o.data = .dict es ep) :
    Turn P w K (.Tuple elts kk tpos) (Itit d o kvs) [it] it (fun i h => ∃ ok ov, IsItemIter h it d i kvs.length ep ok ov) where
  mem := by simp
  obj := fun i h st b hb => by
    have e : b = it := by simpa using hb
    subst e
    obtain ⟨ok, ov, e⟩ := st
    exact ⟨_, e, fun v z => nomatch z⟩
  keep := fun i h h' st k => let ⟨ok, ov, e⟩ := st; ⟨ok, ov, k it (by simp) _ e⟩
  item := by
    intro X hP hw hK hc i pins s σ H E I hf st hg
    subst hP hw hK
    obtain ⟨hd, hi⟩ := hg
    obtain ⟨hs, hgd, es', ep', hdt, raw, hsz, ent⟩ := I.frzT2 hd
    obtain ⟨rfl, rfl⟩ := dict_ep hod hdt
    obtain ⟨⟨k, v⟩, hkv⟩ : ∃ p, kvs[i]? = some p := ⟨kvs[i], List.getElem?_eq_getElem hi⟩
    have hi' : i < es'.size := by omega
    obtain ⟨q, hkey, hq, rv⟩ := ent i k v hi' hkv
    obtain ⟨ok, ov, he⟩ := st
    rw [← hsz] at he
    have hlt : it < s.heap.objs.size := Heap.lt_size he
    refine wpAny_pyNext_items_item_raw he raw hi' fun h' ho hT hz hk => ?_
    refine ⟨_, rfl, wpAny_letOwnedTupleGo_items (s := { s with heap := h' }) ho fun h'' he' sb => ?_⟩
    have hT2 : h''.get? s.heap.objs.size = some { cls := .type "tuple", data := .seq #[es'[i].key, es'[i].val] } := (sb.2 _ (Nat.ne_of_gt hlt)).trans hT
    have new : ObjOk X.prog X.w (upd H s.heap.objs.size (.tup [.ref q, v])) h'' s.heap.objs.size (.tup [.ref q, v]) :=
      ⟨by show 2 ≤ sizeLine; decide, [es'[i].key, es'[i].val], .cons hkey (.cons rv .nil), ⟨_, hT2, rfl, _, rfl⟩⟩
    have I1 : Inv X pins σ (upd H s.heap.objs.size (.tup [.ref q, v])) { s with heap := h'' } :=
      I.turnedNew (t' := s.toks) (ch := [it]) (fun b ob hb e => (sb.2 b (by simpa using hb)).trans (hk b ob (by simpa using hb) e)) hf (Nat.le_refl _) new
    refine ⟨.ref s.heap.objs.size, _, I1, rfl, ⟨_, k, v, q, hkv, rfl, hq, I.hok.fresh (Nat.le_refl _), rfl⟩, ⟨es'[i].key, es'[i].val, ?_⟩, fun b hb => ?_⟩
    · rw [← hsz]
      exact he'
    · have e : b = it := by simpa using hb
      rw [e, upd_ne (Nat.ne_of_lt hlt)]
      exact (hf it (by simp)).1
  done := by
    intro X hP hw hK hc i pins s σ H E I hf st hg
    subst hP hw hK
    obtain ⟨hd, hi⟩ := hg
    obtain ⟨f0, f1, f2, f3, f4, f5⟩ := hf it (by simp)
    obtain ⟨hs, hgd, es', ep', hdt, raw, hsz, ent⟩ := I.frzT2 hd
    obtain ⟨rfl, rfl⟩ := dict_ep hod hdt
    obtain ⟨ok, ov, he⟩ := st
    rw [← hsz] at he
    exact wpAny_pyNext_items_end_raw (I.ok.hd hc) he raw (by omega) fun h' eb => ⟨rfl, I.turned (t' := s.toks) (fun b ob hb e => eb b ob hb e) f0 f1 f3 f4 f5⟩
  self := fun A i s Q E st h => let ⟨_, _, e⟩ := st; PySem.W.kcp_self e h
end
def iValsT (td : TE) : TI := fun σ H R => td σ H fun x H1 => ∃ d o kvs, x = .ref d ∧ H1 d = some (.frz o (.dT kvs)) ∧ R (Itdt d o kvs) H1
def iItemsT (td : TE) : TI := fun σ H R => td σ H fun x H1 => ∃ d o kvs, x = .ref d ∧ H1 d = some (.frz o (.dT kvs)) ∧ R (Itit d o kvs) H1
section
variable {X : Cx} {tg e : Expr} {td : TE} {apos cpos : Pos}
theorem pi_valuesT (he : PE X e td) (hbase : attributeBase e "values" X.env (eval e X.env) = eval e X.env := by rfl) (hline : (apos.endLine == cpos.line) = true := by rfl) : PI X tg (.Call (.Attribute e "values" apos) [] [] cpos) (iValsT td) := by
  refine ⟨fun pins s σ H R I h => ?_⟩
  refine wpAny_Call_method (T := "dict") (id := "dict.values") hbase rfl hline F.plainAttrs_dict F.slot_dict_values F.type_dict_values (thn (he.run pins s σ H _ I h) fun u s1 ⟨x, H1, I1, rx, d, o, kvs, ex, hd, q⟩ => ?_)
  subst ex
  obtain rfl : u = Value.ref d := rx
  obtain ⟨hs, hgd, es, ep, hdt, raw, hsz, ent⟩ := I1.frzT2 hd
  refine ⟨raw.typeIs, ?_, ?_⟩
  · obtain ⟨o', ho', hx', _⟩ := id raw
    exact fun b e => by injection e with e; subst e; exact ⟨o', ho', hx'.2.1⟩
  have I2 : Inv X pins σ H1 { s1 with heap := s1.heap.push { cls := .type "dict_values", data := .fields #[.ref d] } } := I1.kept (t' := s1.toks) fun b ob q => Heap.get?_push_of_some _ q
  have fin : wpAny (model X.prog X.w) X.A (pyIter (.ref s1.heap.objs.size)) (PIE X pins σ tg R) X.xe { s1 with heap := s1.heap.push { cls := .type "dict_values", data := .fields #[.ref d] } } := by
    refine wpAny_pyIter_values_raw (d := d) ⟨_, Heap.get?_push_size _ rfl, rfl, rfl⟩ (raw.at fun o e => Heap.get?_push_of_some _ e) (pi_one (tk := s1.toks) I2 _ (turn_valsT _ hdt) ⟨_, Heap.get?_push_size _ rfl, rfl, ?_⟩ q)
    rw [hsz] <;> rfl
  show wpAny _ _ (callWith cpos (.builtin "dict.values") [.ref d] [] []) _ X.xe s1
  exact method_meetsIn F.slot_dict_values F.entry_dict_values rfl (PySem.evalArgs_none ⟨rfl, raw.typeIs, F.args_dict_values_1 _, _, meets_dict_values_raw d hs, ⟨es, ep, raw⟩, fin⟩)
theorem pi_itemsT {elts : List Expr} {kk : Nat} {tpos : Pos} (he : PE X e td) (hbase : attributeBase e "items" X.env (eval e X.env) = eval e X.env := by rfl) (hline : (apos.endLine == cpos.line) = true := by rfl) :
    PI X (.Tuple elts kk tpos) (.Call (.Attribute e "items" apos) [] [] cpos) (iItemsT td) := by
  refine ⟨fun pins s σ H R I h => ?_⟩
  refine wpAny_Call_method (T := "dict") (id := "dict.items") hbase rfl hline F.plainAttrs_dict F.slot_dict_items F.type_dict_items (thn (he.run pins s σ H _ I h) fun u s1 ⟨x, H1, I1, rx, d, o, kvs, ex, hd, q⟩ => ?_)
  subst ex
  obtain rfl : u = Value.ref d := rx
  obtain ⟨hs, hgd, es, ep, hdt, raw, hsz, ent⟩ := I1.frzT2 hd
  refine ⟨raw.typeIs, ?_, ?_⟩
  · obtain ⟨o', ho', hx', _⟩ := id raw
    exact fun b e => by injection e with e; subst e; exact ⟨o', ho', hx'.2.1⟩
  have I2 : Inv X pins σ H1 { s1 with heap := s1.heap.push { cls := .type "dict_items", data := .fields #[.ref d] } } := I1.kept (t' := s1.toks) fun b ob q => Heap.get?_push_of_some _ q
  have fin : wpAny (model X.prog X.w) X.A (pyIter (.ref s1.heap.objs.size)) (PIE X pins σ (.Tuple elts kk tpos) R) X.xe { s1 with heap := s1.heap.push { cls := .type "dict_items", data := .fields #[.ref d] } } := by
    refine wpAny_pyIter_items_raw (d := d) ⟨_, Heap.get?_push_size _ rfl, rfl, rfl⟩ (raw.at fun o e => Heap.get?_push_of_some _ e) (pi_one (tk := s1.toks) I2 _ (turn_itemsT _ hdt) ⟨.none, .none, ?_⟩ q)
    rw [← hsz]
    exact Heap.get?_push_size _ rfl
  show wpAny _ _ (callWith cpos (.builtin "dict.items") [.ref d] [] []) _ X.xe s1
  exact method_meetsIn F.slot_dict_items F.entry_dict_items rfl (PySem.evalArgs_none ⟨rfl, raw.typeIs, F.args_dict_items_1 _, _, meets_dict_items_raw d hs, ⟨es, ep, raw⟩, fin⟩)
end
section
variable {d : Addr} {o : Obj}
theorem walk_valsT {kvs : List (List Key × V)} : Walk (Itdt d o kvs) kvs.length (fun H => H d = some (.frz o (.dT kvs))) (fun i H x H' => H' = H ∧ ∃ k, kvs[i]? = some (k, x)) :=
  ⟨fun _ _ hi q => ⟨q, hi⟩, fun _ q => ⟨q, Nat.le_refl _⟩, fun _ _ _ _ _ _ y => y⟩
/-- the pairs: a new tuple of the key's own tuple and the value -/
theorem walk_itemsT {kvs : List (List Key × V)} : Walk (Itit d o kvs) kvs.length (fun H => H d = some (.frz o (.dT kvs)))
    (fun i H x H' => ∃ (T : Addr) (k : List Key) (v : V) (q : Addr), kvs[i]? = some (k, v) ∧ x = .ref T ∧ H q = some (.tup (k.map kV)) ∧ H T = none ∧ H' = upd H T (.tup [.ref q, v])) :=
  ⟨fun _ _ hi q => ⟨q, hi⟩, fun _ q => ⟨q, Nat.le_refl _⟩, fun _ _ _ _ _ _ y => y⟩
end
end L2

set_option Elab.async false
set_option linter.all false
set_option maxRecDepth 100000
set_option maxHeartbeats 4000000
/-! check_filling. -/
namespace Fi
open PySem PySem.Spec PyProof.Rows L2 EvP Cm Fk DtE Tb
/-- amounts of pairs that a Filling takes -/
structure Amts (r : TRow) : Prop where
  nod : (r.map (·.1)).Nodup
  key : ∀ t ∈ r, PairK t.1
  nn : ∀ t ∈ r, 0 ≤ t.2
  few : r.length ≤ 60
section
variable {K : PySem.W.Frag} {σ : L2.St} {H : Hp} {tb u : TS} {D : Ends} {m i : Nat} {d : Addr} {kvs : List (List Key × V)}
theorem back_of {H' : Hp} {od : Obj} {o : HO} (h : H d = some o) (e : Ex (upd H d (.frz od o)) H') : Ex H (upd H' d o) := fun b o' hb => by
  by_cases c : b = d
  · rw [c, upd_same, ← h, ← c]
    exact hb
  · rw [upd_ne c]
    exact e _ _ (by rw [upd_ne c]; exact hb)
/-- for k in d: .. -/
theorem st_forKT1 (hd : σ[m]? = some (some (.ref d))) (h : H d = some (.dT kvs)) (h0 : ∃ z, σ = σ.set i z)
    (turn : ∀ k v q H1, (k, v) ∈ kvs → H1 q = some (.tup (k.map kV)) → ∀ D' : Ends, (∀ H2, Ex H1 H2 → D'.nx (σ.set i (some (.ref q))) H2) → tb D' (σ.set i (some (.ref q))) H1) (k : ∀ y H1, Ex H H1 → D.nx (σ.set i y) H1) :
    tLock (tFor (iKeys (tVar m)) (gName i) tb) D σ H := by
  refine ⟨d, .dT kvs, h, True.intro, fun od => ?_⟩
  have hf : upd H d (.frz od (.dT kvs)) d = some (.frz od (.dT kvs)) := upd_same
  have back : ∀ H', Ex (upd H d (.frz od (.dT kvs))) H' → Ex H (upd H' d (.dT kvs)) := fun H' e => back_of h e
  generalize upd H d (.frz od (.dT kvs)) = Hf at hf back ⊢
  refine ⟨_, hd, d, od, rfl, .inr ⟨kvs, hf, for_it walk_keysT (fun n o H' => Ex Hf H' ∧ ∃ y, o = σ.set i y) ⟨Ex.refl Hf, h0⟩ (fun n o H' _ q => q.1 _ _ hf) (fun n x o H' H2 hn q y => ?_) (fun o H' q => ?_)⟩⟩
  · obtain ⟨e, z, rfl⟩ := q
    obtain ⟨rfl, ky, v, q, hk, rfl, hq⟩ := y
    show tb _ ((σ.set i z).set i (some (.ref q))) H2
    rw [List.set_set]
    exact turn ky v q H2 (List.mem_of_getElem? hk) hq _ fun H3 e3 => ⟨e.trans e3, _, rfl⟩
  · obtain ⟨e, z, rfl⟩ := q
    exact ⟨e _ _ hf, k z _ (back _ e)⟩
/-- for v in d.values(): .. -/
theorem st_forVT1 (hd : σ[m]? = some (some (.ref d))) (h : H d = some (.dT kvs)) (h0 : ∃ z, σ = σ.set i z)
    (turn : ∀ k v H1, (k, v) ∈ kvs → ∀ D' : Ends, (∀ H2, Ex H1 H2 → D'.nx (σ.set i (some v)) H2) → tb D' (σ.set i (some v)) H1) (k : ∀ y H1, Ex H H1 → D.nx (σ.set i y) H1) :
    tLock (tFor (iValsT (tVar m)) (gName i) tb) D σ H := by
  refine ⟨d, .dT kvs, h, True.intro, fun od => ?_⟩
  have hf : upd H d (.frz od (.dT kvs)) d = some (.frz od (.dT kvs)) := upd_same
  have back : ∀ H', Ex (upd H d (.frz od (.dT kvs))) H' → Ex H (upd H' d (.dT kvs)) := fun H' e => back_of h e
  generalize upd H d (.frz od (.dT kvs)) = Hf at hf back ⊢
  refine ⟨_, hd, d, od, kvs, rfl, hf, for_it walk_valsT (fun n o H' => Ex Hf H' ∧ ∃ y, o = σ.set i y) ⟨Ex.refl Hf, h0⟩ (fun n o H' _ q => q.1 _ _ hf) (fun n x o H' H2 hn q y => ?_) (fun o H' q => ?_)⟩
  · obtain ⟨e, z, rfl⟩ := q
    obtain ⟨rfl, ky, hk⟩ := y
    show tb _ ((σ.set i z).set i (some x)) H2
    rw [List.set_set]
    exact turn ky x H2 (List.mem_of_getElem? hk) _ fun H3 e3 => ⟨e.trans e3, _, rfl⟩
  · obtain ⟨e, z, rfl⟩ := q
    exact ⟨e _ _ hf, k z _ (back _ e)⟩
theorem st_forKT (hd : σ[m]? = some (some (.ref d))) (h : H d = some (.dT kvs)) (h0 : ∃ z, σ = σ.set i z)
    (turn : ∀ k v q H1, (k, v) ∈ kvs → H1 q = some (.tup (k.map kV)) → ∀ D' : Ends, (∀ H2, Ex H1 H2 → D'.nx (σ.set i (some (.ref q))) H2) → tb D' (σ.set i (some (.ref q))) H1) (k : ∀ y H1, Ex H H1 → u D (σ.set i y) H1) :
    tSeq (tLock (tFor (iKeys (tVar m)) (gName i) tb)) u D σ H := st_forKT1 hd h h0 turn k
end
abbrev sChk : Stmt := top 39
abbrev NF : List Str := ["amounts", "pair", "amount"]
theorem scChk : FnScope NF ["amounts"] (defScope sChk) := ⟨rfl, rfl, rfl, by decide +kernel, rfl, by decide +kernel, by decide +kernel⟩
section
variable {P : Program} {w : World} {K : PySem.W.Frag} {mg : Str → Option Value} {base : Heap} {f fP fA : Addr} {fd fdP fdA : FuncData}
def spChk : Sp := fun vs H Q _ => ∃ (d : Addr) (r : TRow), vs = [.ref d] ∧ H d = some (.dT (tents r)) ∧ Amts r ∧ ∀ H', Ex H H' → Q .non H'
theorem pair_tup {k : List Key} (h : PairK k) : ∃ a x, k.map kV = [V.str a, .str x] ∧ NameV (.str a) ∧ NameV (.str x) := by
  obtain ⟨a, x, rfl, ha, hx⟩ := h
  exact ⟨a, x, rfl, ha, hx⟩
theorem ok_chk (F : Fun K "check_filling" "check_filling" sChk f fd) (T : Blt mg) (hD : mg "dict" = none)
    (GP : FnOk P w K mg base CX0 2 fP fdP ["value"] (spPair K)) (bP : Binds K fdP ["value"] []) (gP : mg "is_pair" = some (.ref fP)) (kP : PySem.W.keepIn K (.ref fP) = true)
    (GA : FnOk P w K mg base CX0 2 fA fdA ["value"] (spAmount K)) (bA : Binds K fdA ["value"] []) (gA : mg "is_amount" = some (.ref fA)) (kA : PySem.W.keepIn K (.ref fA) = true) :
    FnOk P w K mg base CX0 3 f fd ["amounts"] spChk := by
  have nd := scChk.nd
  refine F.ok scChk (fun vs H Q E h => ?_) (fun cdv A outer s H vs Q E hr h => ?_)
  · obtain ⟨d, r, rfl, _⟩ := h
    rfl
  · obtain ⟨d, r, rfl, hd, ok, q⟩ := h
    refine ⟨_, pss_cons (ps_if (pt_not (pt_val (pe_callB call_isi (by rfl) T.isi (by decide +kernel) (pa_cons (pv 0) (pa_cons (pe_bltn (v := .ty "dict") (by rfl) hD (by decide +kernel) rfl) pa_nil))))) (pss_one ps_dead) pss_nil)
      (pss_cons (ps_lock (ps_for PassesOwn.never rfl (pi_keys (pv 0)) (pg_name (i := 1) nd rfl (Or.inl rfl))
        (pss_one (ps_if (pt_not (pt_val (pe_call GP hr (by rfl) gP kP bP .nil pass0 (pa_cons (pv 1) pa_nil)))) (pss_one ps_dead) pss_nil))))
      (pss_one (ps_lock (ps_for PassesOwn.never rfl (pi_valuesT (pv 0)) (pg_name (i := 2) nd rfl (Or.inl rfl))
        (pss_one (ps_if (pt_not (pt_val (pe_call GA hr (by rfl) gA kA bA .nil pass0 (pa_cons (pv 2) pa_nil)))) (pss_one ps_dead) pss_nil)))))), ?_⟩
    refine ⟨_, rfl, _, _, _, _, true, rfl, .ty _, .base (.dT hd), kit_ty (by decide +kernel), _, rfl, ?_⟩
    refine st_forKT (σ := [some (.ref d), none, none]) (m := 0) (i := 1) rfl hd ⟨none, rfl⟩ (fun k v q1 H1 hk h1 D' kk => ?_) fun y H1 e1 => ?_
    · obtain ⟨t, ht, et⟩ := List.mem_map.mp hk
      cases et
      obtain ⟨a, x, ek, ha, hx⟩ := pair_tup (ok.key t ht)
      refine ⟨_, rfl, q1, a, x, rfl, h1.trans (by rw [ek]), ha, hx, _, rfl, ?_⟩
      exact kk _ (Ex.refl _)
    · refine st_forVT1 (σ := [some (.ref d), y, none]) (m := 0) (i := 2) rfl (e1 _ _ hd) ⟨none, rfl⟩ (fun k v H2 hk D' kk => ?_) fun z H2 e2 => q H2 (e1.trans e2)
      obtain ⟨t, ht, et⟩ := List.mem_map.mp hk
      cases et
      refine ⟨_, rfl, V.int t.2, rfl, .inl ⟨t.2, rfl, ?_⟩⟩
      rw [decide_eq_true (ok.nn t ht)]
      refine ⟨_, rfl, ?_⟩
      exact kk _ (Ex.refl _)
end
end Fi

set_option Elab.async false
set_option linter.all false
set_option maxRecDepth 100000
set_option maxHeartbeats 4000000
/-! sums_by. -/
namespace Fi
open PySem PySem.Spec PyProof.Rows L2 EvP Cm Fk DtE Tb
/-- the name at an end of a pair -/
def nmK (j : Nat) (k : List Key) : Str := match k[j]? with
  | some (.inr s) => s
  | _ => ⟨#[]⟩
theorem nmK_0 (a x : Str) : nmK 0 (key2 a x) = a := rfl
theorem nmK_1 (a x : Str) : nmK 1 (key2 a x) = x := rfl
theorem nmK_ok {j : Nat} (hj : j < 2) {k : List Key} (h : PairK k) : (k.map kV)[j]? = some (V.str (nmK j k)) ∧ NameV (.str (nmK j k)) := by
  obtain ⟨a, x, rfl, ha, hx⟩ := h
  rcases (show j = 0 ∨ j = 1 by omega) with rfl | rfl
  · exact ⟨rfl, ha⟩
  · exact ⟨rfl, hx⟩
/-- one more amount of a name -/
def plusR (j : Nat) (acc : Fk.Row) (t : List Key × Int) : Fk.Row := putR acc (nmK j t.1) (amt acc (nmK j t.1) + t.2)
/-- the sums at an end -/
def sumsR (j : Nat) (r : TRow) : Fk.Row := r.foldl (plusR j) []
theorem put_len (ts : Fk.Row) (n : Str) (m : Int) : (putR ts n m).length ≤ ts.length + 1 := by
  unfold putR
  split
  · rw [List.length_map]; omega
  · rw [List.length_append]; exact Nat.le_refl _
theorem amt_nn {ts : Fk.Row} (g : Good ts) (n : Str) : 0 ≤ amt ts n := by
  unfold amt
  cases h : ts.lookup n with
  | none => exact Int.le_refl 0
  | some v =>
    have mem : ∀ (l : Fk.Row), l.lookup n = some v → (n, v) ∈ l := by
      intro l
      induction l with
      | nil => intro z; cases z
      | cons t l ih =>
        obtain ⟨a, b⟩ := t
        intro z
        rw [List.lookup_cons] at z
        cases c : n == a with
        | true =>
          rw [c] at z
          cases Option.some.inj z
          rw [eq_of_beq c]
          exact List.mem_cons_self
        | false =>
          rw [c] at z
          exact List.mem_cons_of_mem _ (ih z)
    exact g.am _ (mem ts h)
theorem sums_good {j : Nat} (hj : j < 2) {r : TRow} (h : Amts r) : ∀ n, n ≤ r.length → Good ((r.take n).foldl (plusR j) []) ∧ ((r.take n).foldl (plusR j) []).length ≤ n
  | 0, _ => by
    exact ⟨⟨.nil, (fun t ht => by cases ht), (fun t ht => by cases ht), (by show 0 < 64; decide)⟩, Nat.le_refl _⟩
  | n + 1, hn => by
    obtain ⟨g, l⟩ := sums_good hj h n (by omega)
    have e : r.take (n + 1) = r.take n ++ [r[n]] := by rw [List.take_succ_eq_append_getElem (by omega)]
    rw [e, List.foldl_append]
    have mem : r[n] ∈ r := List.getElem_mem _
    have few := h.few
    refine ⟨g.put (nmK_ok hj (h.key _ mem)).2 (by have := amt_nn g (nmK j r[n].1); have := h.nn _ mem; omega) (by omega), ?_⟩
    exact Nat.le_trans (put_len _ _ _) (by omega)
abbrev sSums : Stmt := top 41
abbrev NS : List Str := ["amounts", "end", "sums", "pair", "amount"]
theorem scSums : FnScope NS ["amounts", "end"] (defScope sSums) := ⟨rfl, rfl, rfl, by decide +kernel, rfl, by decide +kernel, by decide +kernel⟩
section
variable {P : Program} {w : World} {K : PySem.W.Frag} {mg : Str → Option Value} {base : Heap} {C f f4 pO : Addr} {mc : Value} {fd fd4 : FuncData}
def spSums (C : Addr) : Sp := fun vs H Q _ => ∃ (d : Addr) (j : Nat) (r : TRow), vs = [.ref d, .int j] ∧ j < 2 ∧ H d = some (.dT (tents r)) ∧ Amts r ∧ ∀ b H', Ex H H' → SideN C H H' b (told (sumsR j r)) → Q (.ref b) H'
theorem ok_sums (F : Fun K "sums_by" "sums_by" sSums f fd) (gS : mg "Side" = some (.ref C)) (kS : PySem.W.keepIn K (.ref C) = true)
    (r0 : ClX.CRead K C mc) (c : ClX.CMet K C mc "of" pO f4) (G4 : FnOk P w K mg base CX0 6 f4 fd4 ["cls", "amounts"] (spOf C)) (b4 : Binds K fd4 ["cls", "amounts"] []) :
    FnOk P w K mg base CX0 7 f fd ["amounts", "end"] (spSums C) := by
  have nd := scSums.nd
  refine F.ok scSums (fun vs H Q E h => ?_) (fun cdv A outer s H vs Q E hr h => ?_)
  · obtain ⟨d, j, r, rfl, _⟩ := h
    rfl
  · obtain ⟨d, j, r, rfl, hj, hd, ok, q⟩ := h
    have hu := hu_of hr
    refine ⟨_, pss_cons (ps_set (i := 2) nd rfl (Or.inl rfl) pe_dnewK)
      (pss_cons (ps_lock (ps_for PassesOwn.never rfl (pi_itemsT (pv 0)) (pg_tup rfl (pgs_cons (pg_name (i := 3) nd rfl (Or.inl rfl)) (pgs_cons (pg_name (i := 4) nd rfl (Or.inl rfl)) pgs_nil)))
        (pss_one (ps_dput hu (pv 2) (pe_ix ix_tup (pv 3) (pv 1) (fun _ _ => rfl)) (pe_op op_add (pe_dget2 hu (pv 2) (pe_ix ix_tup (pv 3) (pv 1) (fun _ _ => rfl)) pe_int ⟨rfl, rfl, rfl, rfl⟩) (pv 4)) rfl))))
      (pss_one (ps_ret (ClX.pe_cmeth (pe_glob (v := .ref C) (by rfl) gS rfl) r0 c (FnOk.toR G4 b4) hr pass0 (pa_cons (pv 2) pa_nil))))), ?_⟩
    intro c0 hc
    have cd : c0 ≠ d := (ne_of_none hd hc).symm
    refine ⟨d, .dT (tents r), (by rw [upd_ne cd.symm]; exact hd), True.intro, fun od => ?_⟩
    refine ⟨_, rfl, d, od, tents r, rfl, upd_same, for_it (walk_itemsT (kvs := tents r)) (fun n o H' => (∃ y z, o = [some (.ref d), some (.int j), some (.ref c0), y, z]) ∧ H' d = some (.frz od (.dT (tents r))) ∧ H' c0 = some (.dK (ents ((r.take n).foldl (plusR j) []))) ∧ ∀ b o', H b = some o' → b ≠ d → H' b = some o') ?_ (fun n o H' _ z => z.2.1) (fun n x o H' H2 hn z y => ?_) (fun o H' z => ?_)⟩
    · refine ⟨⟨none, none, rfl⟩, upd_same, (by rw [upd_ne cd, upd_same]; rfl), fun b o' hb ne => ?_⟩
      rw [upd_ne ne, upd_ne (ne_of_none hb hc)]
      exact hb
    · obtain ⟨⟨y1, z1, rfl⟩, h1, h2, h3⟩ := z
      obtain ⟨T, k, v, q1, hk, rfl, hq, hT, rfl⟩ := y
      have hn' : n < r.length := by
        have e : (tents r).length = r.length := by unfold tents; rw [List.length_map]
        omega
      unfold tents at hk
      rw [List.getElem?_map, List.getElem?_eq_getElem hn'] at hk
      have hk2 := Option.some.inj hk
      have ek : r[n].1 = k := (Prod.mk.inj hk2).1
      have ev : V.int r[n].2 = v := (Prod.mk.inj hk2).2
      subst ek ev
      have mem : r[n] ∈ r := List.getElem_mem _
      obtain ⟨n1, n2⟩ := nmK_ok hj (ok.key _ mem)
      obtain ⟨g, l⟩ := sums_good hj ok n (by omega)
      refine ⟨T, _, rfl, SqT.of upd_same, rfl, _, _, rfl, _, _, rfl, rfl, ?_⟩
      have hc2 : upd H' T (.tup [.ref q1, .int r[n].2]) c0 = some (.dK (ents ((r.take n).foldl (plusR j) []))) := by
        rw [upd_ne (ne_of_none h2 hT)]
        exact h2
      have hq2 : upd H' T (.tup [.ref q1, .int r[n].2]) q1 = some (.tup (r[n].1.map kV)) := by
        rw [upd_ne (ne_of_none hq hT)]
        exact hq
      refine ⟨_, rfl, c0, rfl, .inl ⟨_, .inl hc2⟩, ?_⟩
      refine ⟨_, rfl, _, rfl, q1, _, _, _, rfl, rfl, SqT.of hq2, atI_nat n1, ?_⟩
      refine ⟨_, DGet.k (k := Sum.inr (nmK j r[n].1)) hc2, ?_⟩
      refine ⟨_, rfl, amt ((r.take n).foldl (plusR j) []) (nmK j r[n].1), r[n].2, ?_, rfl, ?_⟩
      · rw [valV_ents]
        unfold amt
        cases ((r.take n).foldl (plusR j) []).lookup (nmK j r[n].1) <;> rfl
      · refine ⟨_, rfl, _, rfl, _, rfl, q1, _, _, _, rfl, rfl, SqT.of hq2, atI_nat n1, c0, _, rfl, DPut.k (k := Sum.inr (nmK j r[n].1)) hc2 (by unfold ents; rw [List.length_map, sizeLine_eq]; have := ok.few; omega), ⟨_, _, rfl⟩, ?_, ?_, fun b o' hb ne => ?_⟩
        · rw [upd_ne cd.symm, upd_ne (ne_of_none h1 hT)]
          exact h1
        · rw [upd_same, ← ents_put, List.take_succ_eq_append_getElem hn', List.foldl_append]
          rfl
        · rw [upd_ne (ne_of_none hb hc), upd_ne (ne_of_none (h3 b o' hb ne) hT)]
          exact h3 b o' hb ne
    · obtain ⟨⟨y1, z1, rfl⟩, h1, h2, h3⟩ := z
      have e : (tents r).length = r.length := by unfold tents; rw [List.length_map]
      rw [e, List.take_length] at h2
      have gl := sums_good hj ok r.length (Nat.le_refl _)
      rw [List.take_length] at gl
      have ex : Ex H (upd H' d (.dT (tents r))) := fun b o' hb => by
        by_cases z : b = d
        · rw [z, upd_same, ← hd, ← z]
          exact hb
        · rw [upd_ne z]
          exact h3 b o' hb z
      refine ⟨h1, ?_⟩
      refine ⟨rfl, _, rfl, c0, sumsR j r, rfl, (by rw [upd_ne cd]; exact h2), gl.1, fun b H3 e3 sb => q b H3 (ex.trans e3) (SideN.back ex sb)⟩
end
end Fi

set_option Elab.async false
set_option linter.all false
set_option maxRecDepth 100000
set_option maxHeartbeats 4000000
/-! What Filling.__init__ makes of the amounts, piece by piece. -/
namespace Fi
open PySem PySem.Spec PyProof.Rows L2 EvP Cm Fk DtE Tb
def amtT (r : TRow) (k : List Key) : Int := (lookT r k).getD 0
def posT (r : TRow) : TRow := r.filter fun t => decide (0 < t.2)
/-- the amounts that are told, in the order of their texts -/
def toldT (r : TRow) : TRow := (sortK ((posT r).map (·.1))).map fun k => (k, amtT r k)
theorem sortK_perm (ks : List (List Key)) : (sortK ks).Perm ks := List.mergeSort_perm ks _
theorem look_of {r : TRow} (nod : (r.map (·.1)).Nodup) {t : List Key × Int} (h : t ∈ r) : lookT r t.1 = some t.2 := by
  induction r with
  | nil => cases h
  | cons a r ih =>
    rw [List.map_cons, List.nodup_cons] at nod
    unfold lookT
    rw [List.find?_cons]
    rcases List.mem_cons.mp h with rfl | h
    · rw [decide_eq_true rfl]
      rfl
    · have ne : a.1 ≠ t.1 := fun z => nod.1 (List.mem_map.mpr ⟨t, h, z.symm⟩)
      rw [decide_eq_false ne]
      exact ih nod.2 h
theorem amt_told {r : TRow} (nod : (r.map (·.1)).Nodup) {k : List Key} (h : k ∈ (posT r).map (·.1)) : lookT r k = some (amtT r k) ∧ (k, amtT r k) ∈ r ∧ 0 < amtT r k := by
  obtain ⟨t, ht, rfl⟩ := List.mem_map.mp h
  have m := (List.mem_filter.mp ht)
  have l := look_of nod m.1
  have e : amtT r t.1 = t.2 := by
    unfold amtT
    rw [l]
    rfl
  rw [e]
  exact ⟨l, m.1, of_decide_eq_true m.2⟩
theorem told_key (r : TRow) : (toldT r).map (·.1) = sortK ((posT r).map (·.1)) := by
  unfold toldT
  rw [List.map_map]
  exact List.map_id _
theorem told_nod {r : TRow} (nod : (r.map (·.1)).Nodup) : ((toldT r).map (·.1)).Nodup := by
  rw [told_key, (sortK_perm _).nodup_iff]
  exact nod.sublist (List.filter_sublist.map _)
theorem told_len (r : TRow) : (toldT r).length ≤ r.length := by
  unfold toldT
  rw [List.length_map, (sortK_perm _).length_eq, List.length_map]
  exact List.length_filter_le _ _
theorem told_in {r : TRow} (nod : (r.map (·.1)).Nodup) {t : List Key × Int} (h : t ∈ toldT r) : t ∈ r ∧ 0 < t.2 ∧ lookT r t.1 = some t.2 := by
  unfold toldT at h
  obtain ⟨k, hk, rfl⟩ := List.mem_map.mp h
  obtain ⟨a, b, c⟩ := amt_told nod ((sortK_perm _).mem_iff.mp hk)
  exact ⟨b, c, a⟩
/-- a pair, as a tuple -/
abbrev isK (k : List Key) : PR := tupV (k.map kV)
theorem keys_upd {H : Hp} {x : Addr} {o o' : HO} (hx : H x = some o) (ho : ∀ ys, o ≠ .tup ys) : ∀ {ks : List (List Key)} {vs : List V}, All2 H (ks.map isK) vs → All2 (upd H x o') (ks.map isK) vs
  | [], _, .nil => .nil
  | k :: ks, _, .cons ⟨a, ev, ha⟩ r => .cons ⟨a, ev, by
    rw [upd_ne (fun z => by
      rw [z, hx] at ha
      exact ho _ (Option.some.inj ha))]
    exact ha⟩ (keys_upd hx ho r)
theorem keys_of {H : Hp} : ∀ {r : TRow} {vs : List V}, All2 H ((r.map (·.1)).map isK) vs → ∃ bs, vs = bs.map V.ref ∧ IsKeys H (tents r) bs
  | [], _, .nil => ⟨[], rfl, .nil⟩
  | t :: r, _, .cons ⟨a, ev, ha⟩ k => by
    obtain ⟨bs, e, i⟩ := keys_of k
    exact ⟨a :: bs, by rw [ev, e]; rfl, .cons ha i⟩
section
variable {K : PySem.W.Frag} {H : Hp} {x d : Addr} {r : TRow}
abbrev σI (x d : Addr) : L2.St := [some (.ref x), some (.ref d), none, none]
/-- [pair for pair, amount in amounts.items() if amount > 0] -/
theorem comp_pos (hd : H d = some (.dT (tents r))) (few : r.length ≤ 60) :
    Gives (tLockE (tLc (iItemsT (tVar 1)) (gTup K 2 (gCons (gName 2) (gCons (gName 3) gNil))) (tTest (tOp (rI0 fun i j => .bl (decide (j < i))) (tVar 3) (tC (.int 0)))) (tVar 2) [2, 3])) (σI x d) H
      (lst H (((posT r).map (·.1)).map isK)) := fun H1 e1 Q q => by
  have h1 := e1 _ _ hd
  refine ⟨d, _, h1, True.intro, fun od => ⟨_, rfl, d, od, tents r, rfl, upd_same, fun D hD => ?_⟩⟩
  have nd : d ≠ D := fun z => by
    rw [← z, upd_same] at hD
    cases hD
  have nD : H1 D = none := by rw [upd_ne nd.symm] at hD; exact hD
  have el : (tents r).length = r.length := by unfold tents; rw [List.length_map]
  refine lc_it walk_itemsT (fun j H' => ∃ acc, H' D = some (.lst acc) ∧ Ex (upd H1 d (.frz od (.dT (tents r)))) H' ∧ All2 H' (((posT (r.take j)).map (·.1)).map isK) acc) ⟨[], upd_same, Ex.new hD, .nil⟩ (fun j H' _ ⟨_, _, e, _⟩ => e _ _ upd_same) (fun j y H' H'' hj ⟨acc, a1, a2, a3⟩ w => ?_) (fun H' ⟨acc, a1, a2, a3⟩ => ?_)
  · obtain ⟨T, k, v, q1, hk, rfl, hq, hT, rfl⟩ := w
    have hj' : j < r.length := by omega
    unfold tents at hk
    rw [List.getElem?_map, List.getElem?_eq_getElem hj'] at hk
    have hk2 := Option.some.inj hk
    have ek : r[j].1 = k := (Prod.mk.inj hk2).1
    have ev : V.int r[j].2 = v := (Prod.mk.inj hk2).2
    subst ek ev
    have b1 : upd H' T (.tup [.ref q1, .int r[j].2]) D = some (.lst acc) := by
      rw [upd_ne (ne_of_none a1 hT)]
      exact a1
    have b2 : Ex (upd H1 d (.frz od (.dT (tents r)))) (upd H' T (.tup [.ref q1, .int r[j].2])) := a2.trans (Ex.new hT)
    have b3 := a3.ex (Ex.new (o := .tup [.ref q1, .int r[j].2]) hT)
    have b4 : upd H' T (.tup [.ref q1, .int r[j].2]) q1 = some (.tup (r[j].1.map kV)) := by
      rw [upd_ne (ne_of_none hq hT)]
      exact hq
    have b0 : upd H' T (.tup [.ref q1, .int r[j].2]) T = some (.tup [.ref q1, .int r[j].2]) := upd_same
    generalize upd H' T (.tup [.ref q1, .int r[j].2]) = G at b0 b1 b2 b3 b4 ⊢
    have tk : r.take (j + 1) = r.take j ++ [r[j]] := List.take_succ_eq_append_getElem hj'
    have la : acc.length ≤ 60 := by
      have e := a3.length
      rw [List.length_map, List.length_map] at e
      have := List.length_filter_le (fun t : List Key × Int => decide (0 < t.2)) (r.take j)
      have l2 : (r.take j).length ≤ r.length := by rw [List.length_take]; omega
      have e2 : (posT (r.take j)).length ≤ (r.take j).length := this
      omega
    refine ⟨T, _, rfl, SqT.of b0, rfl, _, _, rfl, _, _, rfl, rfl, rfl, ?_⟩
    refine ⟨_, rfl, r[j].2, 0, rfl, rfl, _, rfl, ?_⟩
    dsimp only
    by_cases c : 0 < r[j].2
    · rw [decide_eq_true c, if_pos rfl]
      refine ⟨_, rfl, acc, b1, by rw [sizeLine_eq]; omega, acc ++ [.ref q1], upd_same, fun b o hb => ?_, ?_⟩
      · rw [upd_ne (ne_of_none hb hD)]
        exact b2 _ _ hb
      · have e : ((posT (r.take (j + 1))).map (·.1)).map isK = ((posT (r.take j)).map (·.1)).map isK ++ [isK r[j].1] := by
          unfold posT
          rw [tk, List.filter_append, List.filter_cons, decide_eq_true c, List.map_append, List.map_append]
          rfl
        rw [e]
        refine all2_stays b1 (fun P hP => ?_) (all2_snoc b3 ⟨q1, rfl, b4⟩)
        rcases List.mem_append.mp hP with hP | hP
        · obtain ⟨k, _, rfl⟩ := List.mem_map.mp hP
          exact stays_tupV _
        · rw [List.mem_singleton.mp hP]
          exact stays_tupV _
    · rw [decide_eq_false c, if_neg Bool.false_ne_true]
      refine ⟨acc, b1, b2, ?_⟩
      have e : posT (r.take (j + 1)) = posT (r.take j) := by
        unfold posT
        rw [tk, List.filter_append, List.filter_cons, decide_eq_false c]
        simp
      rw [e]
      exact b3
  · rw [el, List.take_length] at a3
    have hf := a2 _ _ upd_same
    have ex : Ex H1 (upd H' d (.dT (tents r))) := back_of h1 a2
    refine ⟨hf, q _ _ ex ⟨D, acc, rfl, by rw [upd_ne nd.symm]; exact a1, e1.back nD, keys_upd hf (fun _ z => nomatch z) a3⟩⟩
end
end Fi

set_option Elab.async false
set_option linter.all false
set_option maxRecDepth 100000
set_option maxHeartbeats 1000000
/-! {k: v for .. in ..}, the keys tuples. -/
namespace Dc1
open PySem PySem.Spec PyProof.Rows L2
abbrev Ex1 (kx vx t0 i0 : Expr) (f0 : List Expr) (sc : Scope) (pos : Pos) : Expr := .DictComp kx vx [⟨t0, i0, f0, 0⟩] sc pos
/-- d[k] = v by a comprehension, k a tuple -/
theorem put_tup {X : Cx} {pins : List (Addr × Obj)} {σ : L2.St} {H : Hp} {s : Shared} {E : Value → Shared → Prop} {D b : Addr} {kvs : List (List Key × V)} {k : List Key} {v : V} {u r : Value} {Q : Unit → Shared → Prop} (hu : X.A.units + 1 < cLine) (I : Inv X pins σ H s) (hD : H D = some (.dT kvs)) (hz : kvs.length < sizeLine)
    (eb : H b = some (.tup (k.map kV))) (ry : RelV (.ref b) u) (rv : RelV v r) (h : ∀ s', Inv X pins σ (upd H D (.dT (putK kvs k v))) s' → Q () s') : wpAny (model X.prog X.w) X.A (dictSet D u r) Q E s := by
  cases ry
  obtain ⟨z, hd, xs, rel, dd⟩ := dt_of I.hok hD
  have l1 : xs.length ≤ sizeLine := by rw [← Paired.length rel]; exact z
  have l2 : (putK kvs k v).length ≤ sizeLine := by
    have := length_putK kvs k v
    omega
  refine wpAny_dictSet_heap (hsz := l1) ?_ (key_of I.hok eb) dd fun h' dd' hs => h _ ?_
  · show X.A.units < cLine
    omega
  · obtain ⟨q, es, ep, hq, h2, h3, h4, _, h5⟩ := dd'
    refine d_write I (by rw [hD]; exact True.intro) hs ⟨q, hq⟩ ⟨l2, hd, _, (rel.put k eb rv).keeps fun c ys ec => ?_, q, es, ep, hq, h2, h3, h4, h5⟩
    rw [upd_ne (ne_of ec hD (fun z => nomatch z))]
    exact ec
/-- {k: v for tg in iter if ..}, the keys tuples: D the new dict -/
def tDc1 (wi : TI) (g : TG) (tt : TT) (tk tv : TE) (vs : List Nat) : TE := fun σ H Q => wi σ H fun J H1 => ∀ D, H1 D = none → ∃ W : Nat → Nat → Hp → Prop, (∃ m, W 0 m (upd H1 D (.dT []))) ∧ ∀ i m H, W i m H →
  (J.stop i H ∧ Q (.ref D) H) ∨ (J.go i H ∧ ∃ Nx : Hp → Prop, (∀ H', Nx H' → ∃ m', m' < m ∧ W (i + 1) m' H') ∧ ∀ x H', J.yld i H x H' → g x (wipe σ vs) H' fun σ2 H2 => wipe σ2 vs = wipe σ vs ∧ tt σ2 H2 fun b H3 =>
    if b = true then tk σ2 H3 fun y H4 => tv σ2 H4 fun z H5 => ∃ (kvs : List (List Key × V)) (ks : List Key) (q : Addr), y = .ref q ∧ H5 q = some (.tup (ks.map kV)) ∧ H5 D = some (.dT kvs) ∧ kvs.length < sizeLine ∧ Nx (upd H5 D (.dT (putK kvs ks z))) else Nx H3)
abbrev InBlk (X : Cx) (sc : Scope) (T : Cx → Prop) : Prop := ∀ (s : Shared) (H : Hp) (C : Addr) (cl : List (Str × Addr)) (fp : List Addr), T (X.blk s H sc (compEnvC sc cl C X.env) fp)
section
variable {X : Cx}
theorem core1 {pins : List (Addr × Obj)} {s : Shared} {σ : L2.St} {H : Hp} {Q : VK} {kx vx tg iter : Expr} {f0 : List Expr} {sc : Scope} {own : List (Str × Nat)} {pos pos' : Pos} {wi : TI} {g : TG} {tt : TT} {tk tv : TE} {use : Option (Value → Sem Unit)} {Qf : Value → Shared → Prop}
    (hu : X.A.units + 1 < cLine) (hc : X.calm = true) (hN : X.N.Nodup) (I : Inv X pins σ H s) (hi : PI X tg iter wi) (ok : BlkOk X.N X.env.scope sc own)
    (hg : InBlk X sc fun B => PG B tg g) (ht : InBlk X sc fun B => PTs B f0 tt) (hk : InBlk X sc fun B => PE B kx tk) (he : InBlk X sc fun B => PE B vx tv) (hs : ∀ x, foldedSetIterable iter X.env x = pure x)
    (h : tDc1 wi g tt tk tv (own.map (·.2)) σ H Q)
    (hR : ∀ D C s' m H', Inv X pins σ H' s' → Q (.ref D) H' → s'.heap.Ns C m → FpOk X pins H' C → compPost (model X.prog X.w) X.A X.xe use Qf (.ref D) C (.ok .next) s') :
    wpAny (model X.prog X.w) X.A (comprehension (Ex1 kx vx tg iter f0 sc pos) sc X.env pos' newDict false (eval iter X.env) use) Qf X.xe s := by
  have caught : ∀ y ∈ sc.names, y.2 = .free → ∃ c, X.env.cells.lookup y.1 = some c := fun y hy e => (ok.free y hy e).elim (fun k => I.ok.has _ (.inl k)) fun k => I.ok.has _ (.inr k)
  refine wpAny_comprehension_free (use := use) rfl hs (closure_ok caught) ok.kind (fun y hy e => by rw [ok.uniq y hy, e]) (thn (hi.run pins s σ H _ I h) fun xv s1 hx => thn hx fun itv s2 h2 => ?_)
  obtain ⟨it, fp, tn, J, H2, rfl, I2, T, st2, f2, q⟩ := h2
  refine wpAny_newObj_type (newEnv_comp ?_)
  generalize hD : s2.heap.objs.size = D
  obtain ⟨W, ⟨m0, w0⟩, turn⟩ := q D (I2.hok.fresh (Nat.le_of_eq hD))
  generalize hs3 : ({ s2 with heap := s2.heap.push { cls := .type "dict", data := .dict #[] } } : Shared) = s3
  have h3 : s3.heap = s2.heap.push { cls := .type "dict", data := .dict #[] } := by rw [← hs3]
  have I3 : Inv X pins σ (upd H2 D (.dT [])) s3 := by
    rw [← hs3]
    refine I2.laid (t' := s2.toks) (fun b o e => Heap.get?_push_of_some _ e) (Nat.le_of_eq hD) ?_
    rw [← hD]
    exact dt_empty s2.heap I2.big
  have low : ∀ b ∈ fp, b < s2.heap.objs.size := fun b hb => let ⟨o, e, _⟩ := T.obj _ _ st2 b hb; Heap.lt_size e
  have f3 : ∀ b ∈ fp, FpOk X pins (upd H2 D (.dT [])) b ∧ b < s3.heap.objs.size := fun b hb =>
    ⟨⟨by rw [upd_ne (by rw [← hD]; exact Nat.ne_of_lt (low b hb))]; exact (f2 b hb).1, (f2 b hb).2⟩, by rw [h3, Heap.size_push]; exact Nat.lt_succ_of_lt (low b hb)⟩
  have st3 : tn 0 s3.heap := T.keep _ _ _ st2 fun b _ o e => by rw [h3]; exact Heap.get?_push_of_some _ e
  have I4 := block_start I3 ok hN f3
  generalize hcl : cellsFrom (s3.heap.objs.size + 1) sc.names (cloFrom X.env.cells sc.names []) = cl at I4
  have pg := hg s3 (upd H2 D (.dT [])) s3.heap.objs.size cl fp
  have pt := ht s3 (upd H2 D (.dT [])) s3.heap.objs.size cl fp
  have pk := hk s3 (upd H2 D (.dT [])) s3.heap.objs.size cl fp
  have pe := he s3 (upd H2 D (.dT [])) s3.heap.objs.size cl fp
  show codeAny _ _ (.compStart (Ex1 kx vx tg iter f0 sc pos) 0 (.ref it) (.ref D) (compEnvC sc cl s3.heap.objs.size X.env)) (compPost (model X.prog X.w) X.A X.xe use Qf (.ref D) s3.heap.objs.size) { s3 with heap := pushCells (s3.heap.push { cls := .type "dict", data := .dict #[] }) sc.names }
  have nfp : ∀ b ∈ fp, (upd H2 D (.dT [])) b = none := fun b hb => (f3 b hb).1.1
  generalize hce : compEnvC sc cl s3.heap.objs.size X.env = ce at I4 pg pt pk pe ⊢
  have cL : ce.locals = s3.heap.objs.size := by
    subst hce
    rfl
  generalize hH3 : upd H2 D (.dT []) = H3 at I3 I4 pg pt pk pe w0 nfp f3
  generalize hs4 : ({ s3 with heap := pushCells (s3.heap.push { cls := .type "dict", data := .dict #[] }) sc.names } : Shared) = s4 at I4 ⊢
  have st4 : tn 0 s4.heap := T.keep _ _ _ st3 fun b _ o e => by rw [← hs4]; exact pushCells_keeps _ _ _ _ (Heap.get?_push_of_some _ e)
  generalize hB : X.blk s3 H3 sc ce fp = B at I4 pg pt pk pe
  have stat : ∀ {pn : List (Addr × Obj)} {σ' : L2.St} {H' : Hp} {s' : Shared}, Inv B [] σ' H' s' → (∀ b ∈ fp, H' b = none) → ∀ b ∈ fp, FpOk B [] H' b := fun {pn σ' H' s'} I' hn b hb => by
    subst hB
    exact ⟨hn b hb, (I'.ok.exf b hb).1, I'.ok.exfs b hb, .inl hb, fun x c e => (I'.ok.exf b hb).2 x c e, fun p hp => absurd (show p ∈ ([] : List (Addr × Obj)) ++ [] from hp) (by simp)⟩
  have eB : B.prog = X.prog ∧ B.w = X.w ∧ B.K = X.K ∧ B.calm = true := by
    subst hB
    exact ⟨rfl, rfl, rfl, hc⟩
  have loop : codeAny (model X.prog X.w) X.A (.compLoop (Ex1 kx vx tg iter f0 sc pos) 0 (.ref it) (.ref D) ce) (compPost (model X.prog X.w) X.A X.xe use Qf (.ref D) s3.heap.objs.size) s4 := by
    subst hB
    refine compLoop_anyD (fun n s' => ∃ i H', Inv (X.blk s3 H3 sc ce fp) [] (wipe σ (own.map (·.2))) H' s' ∧ tn i s'.heap ∧ (∀ b ∈ fp, H' b = none) ∧ W i n H') ?_ m0 ⟨0, H3, I4, st4, nfp, w0⟩
    rintro n s5 ⟨i, H5, I5, st5, n5, w5⟩
    rcases turn i n H5 w5 with ⟨stop, qq⟩ | ⟨go, Nx, hNx, step⟩
    · refine thnF (T.done (X.blk s3 H3 sc ce fp) rfl rfl rfl hc i [] s5 _ H5 (fun _ _ => False) I5 (stat (pn := []) I5 n5) st5 stop) fun r s6 ⟨hr, I6⟩ => ?_
      subst hr
      obtain ⟨m, hn, _⟩ := I6.loc
      have hn : s6.heap.Ns ce.locals m := hn
      have nC : H5 ce.locals = none := I6.free
      rw [cL] at hn nC
      exact hR D s3.heap.objs.size s6 m H5 (I3.call' (ch := fp) I6.os I6.base I6.hok I6.bare fun b hb => ⟨(f3 b hb).1.2.2.2.1, (f3 b hb).1.2.1, (f3 b hb).1.2.2.2.2.1, (f3 b hb).1.2.2.2.2.2⟩) qq hn (I3.fpOk (Nat.le_refl _) nC)
    · refine thnF (T.item (X.blk s3 H3 sc ce fp) rfl rfl rfl hc i [] s5 _ H5 (fun _ _ => False) I5 (stat (pn := []) I5 n5) st5 go) fun r s6 ⟨u, hr, h6⟩ => ?_
      subst hr
      refine thnF h6 fun _ s7 ⟨x, H7, I7, r7, y7, st7, n7⟩ => ?_
      refine thnF (pg.run _ s7 _ H7 x u _ (I7.pinned (stat (pn := []) I7 n7) (T.obj _ _ st7)) r7 (step x H7 y7)) fun _ s8 ⟨σ8, H8, I8, hw8, q8⟩ => thnF (pt.run _ s8 σ8 H8 _ I8 q8) fun b s9 ⟨H9, I9, q9⟩ => ?_
      have fin : ∀ {σ9 : L2.St} {s' : Shared} {H' : Hp}, Inv (X.blk s3 H3 sc ce fp) ([] ++ pinsAt fp s7.heap) σ9 H' s' → (wipe σ (own.map (·.2))).length = σ9.length → (∀ (j : Nat) v, (wipe σ (own.map (·.2)))[j]? = some (some v) → σ9[j]? = some (some v)) → Nx H' →
          ∃ m, m < n ∧ ∃ i H', Inv (X.blk s3 H3 sc ce fp) [] (wipe σ (own.map (·.2))) H' s' ∧ tn i s'.heap ∧ (∀ b ∈ fp, H' b = none) ∧ W i m H' := fun {σ9 s' H'} I' hl hk nx => by
        obtain ⟨m', hm, w'⟩ := hNx H' nx
        have pin' : ∀ b ∈ fp, ∀ o, s7.heap.get? b = some o → s'.heap.get? b = some o ∧ H' b = none := fun b hb o e => have z := I'.pin (b, o) (List.mem_append_right _ (List.mem_append_right _ (mem_pinsAt hb e))); ⟨z.1, z.2.1⟩
        exact ⟨m', hm, i + 1, H', (I'.unpinned (pins := [])).weak hl hk, T.keep _ _ _ st7 fun b hb o e => (pin' b hb o e).1, fun b hb => let ⟨o, e, _⟩ := T.obj _ _ st7 b hb; (pin' b hb o e).2, w'⟩
      have l8 : (wipe σ (own.map (·.2))).length = σ8.length := by rw [← hw8, wipe_length]
      have k8 : ∀ (j : Nat) v, (wipe σ (own.map (·.2)))[j]? = some (some v) → σ8[j]? = some (some v) := fun j v e => (wipe_some (by rw [hw8]; exact e)).1
      cases b with
      | false => exact fin I9 l8 k8 (by simpa only [Bool.false_eq_true, if_false] using q9)
      | true =>
        rw [if_pos rfl] at q9
        refine thnF (pk.run _ s9 σ8 H9 _ I9 q9) fun z s17 ⟨yk, H17, I17, r17, q17⟩ => thnF (pe.run _ s17 σ8 H17 _ I17 q17) fun z2 s18 ⟨yv, H18, I18, r18, kvs, ks, qk, ek, hqk, hD18, hz18, nx⟩ => ?_
        subst ek
        exact put_tup (X := X.blk s3 H3 sc ce fp) hu I18 hD18 hz18 hqk r17 r18 fun s19 I19 => fin I19 l8 k8 nx
  exact codeAny_compStart_dict loop (T.self X.A 0 _ _ _ st4 loop)
theorem pe_dc1 {kx vx tg iter : Expr} {f0 : List Expr} {sc : Scope} {own : List (Str × Nat)} {pos : Pos} {wi : TI} {g : TG} {tt : TT} {tk tv : TE} (hu : X.A.units + 1 < cLine) (hc : X.calm = true) (hN : X.N.Nodup) (hi : PI X tg iter wi) (ok : BlkOk X.N X.env.scope sc own)
    (hg : InBlk X sc fun B => PG B tg g) (ht : InBlk X sc fun B => PTs B f0 tt) (hk : InBlk X sc fun B => PE B kx tk) (he : InBlk X sc fun B => PE B vx tv) (hs : ∀ x, foldedSetIterable iter X.env x = pure x := by intro _; rfl) : PE X (Ex1 kx vx tg iter f0 sc pos) (tDc1 wi g tt tk tv (own.map (·.2))) := by
  refine ⟨fun pins s σ H Q I h => ?_⟩
  rw [arm_eval_DictComp]
  refine core1 hu hc hN I hi ok hg ht hk he hs h fun D C s' m H' I' q hn f => ⟨m, hn, fun h2 sb => ?_⟩
  obtain ⟨a0, a1, a2, a3, a4, a5⟩ := f
  exact ⟨.ref D, H', I'.turned (t' := s'.toks) (fun b o hb e => (sb.2 b hb).trans e) a0 a1 a3 a4 a5, rfl, q⟩
end
end Dc1

set_option Elab.async false
set_option linter.all false
set_option maxRecDepth 100000
set_option maxHeartbeats 4000000
/-! What Filling.__init__ makes of the amounts, piece by piece. -/
namespace Fi
open PySem PySem.Spec PyProof.Rows L2 EvP Cm Fk DtE Tb
/-- a key, read from a tuple's things -/
def vK : V → Key
  | .str x => .inr x
  | .int i => .inl i
  | _ => .inl 0
theorem vK_kV (k : List Key) : (k.map kV).map vK = k := by
  rw [List.map_map]
  conv => rhs; rw [← List.map_id k]
  exact List.map_congr_left fun x _ => by cases x <;> rfl
/-- the amount of the pair at an address -/
def amtI (H : Hp) (r : TRow) : V → Int
  | .ref b => match H b with
    | some (.tup ys) => amtT r (ys.map vK)
    | _ => 0
  | _ => 0
theorem amtI_of {H : Hp} {r : TRow} {b : Addr} {k : List Key} (h : H b = some (.tup (k.map kV))) : amtI H r (.ref b) = amtT r k := by
  show (match H b with
    | some (.tup ys) => amtT r (ys.map vK)
    | _ => 0) = _
  rw [h]
  show amtT r ((k.map kV).map vK) = _
  rw [vK_kV]
theorem keys_mem {H : Hp} : ∀ {ks : List (List Key)} {vs : List V}, All2 H (ks.map isK) vs → ∀ v ∈ vs, ∃ (b : Addr) (k : List Key), k ∈ ks ∧ v = .ref b ∧ H b = some (.tup (k.map kV))
  | [], _, .nil, v, hv => by cases hv
  | k :: ks, _, .cons ⟨a, ev, ha⟩ r, v, hv => by
    rcases List.mem_cons.mp hv with rfl | hv
    · exact ⟨a, k, .head _, ev, ha⟩
    · obtain ⟨b, k', m, e, h⟩ := keys_mem r v hv
      exact ⟨b, k', .tail _ m, e, h⟩
theorem keys_amt {H : Hp} {r : TRow} : ∀ {ks : List (List Key)} {vs : List V}, All2 H (ks.map isK) vs → vs.map (amtI H r) = ks.map (amtT r)
  | [], _, .nil => rfl
  | k :: ks, _, .cons ⟨a, ev, ha⟩ t => by
    subst ev
    rw [List.map_cons, List.map_cons, amtI_of ha, keys_amt t]
theorem keys_get {H : Hp} : ∀ {ks : List (List Key)} {vs : List V} {j : Nat} {v : V}, All2 H (ks.map isK) vs → vs[j]? = some v → ∃ (b : Addr) (k : List Key), ks[j]? = some k ∧ v = .ref b ∧ H b = some (.tup (k.map kV))
  | [], _, j, v, .nil, h => by cases h
  | k :: ks, _, 0, v, .cons ⟨a, ev, ha⟩ r, h => by
    cases Option.some.inj h
    exact ⟨a, k, rfl, ev, ha⟩
  | k :: ks, _, j + 1, v, .cons ⟨a, ev, ha⟩ r, h => by
    obtain ⟨b, k', m, e, hb⟩ := keys_get (j := j) r h
    exact ⟨b, k', m, e, hb⟩
theorem keys_len {H : Hp} {ks : List (List Key)} {vs : List V} (h : All2 H (ks.map isK) vs) : vs.length = ks.length := by
  have e := h.length
  rw [List.length_map] at e
  exact e
theorem valV_none {r : TRow} {k : List Key} {n : Int} (h : ((r ++ [(k, n)]).map (·.1)).Nodup) : valV (tents r) k = none := by
  rw [valV_tents]
  have z : lookT r k = none := by
    unfold lookT
    rw [Option.map_eq_none_iff, List.find?_eq_none]
    intro t ht e
    rw [List.map_append, List.nodup_append] at h
    exact h.2.2 t.1 (List.mem_map.mpr ⟨t, ht, rfl⟩) k (by simp) (of_decide_eq_true e)
  rw [z]
  rfl
theorem tents_put {r : TRow} {k : List Key} {n : Int} (h : ((r ++ [(k, n)]).map (·.1)).Nodup) : putK (tents r) k (.int n) = tents (r ++ [(k, n)]) := by
  rw [putK_new _ (valV_none h)]
  unfold tents
  rw [List.map_append]
  rfl
section
variable {K : PySem.W.Frag} {H : Hp} {x d : Addr} {r : TRow} {σ : L2.St}
/-- ascending(list of pairs) -/
theorem g_asc {te : TE} {H0 : Hp} (h : EvP.Gives te σ H (lst H0 (((posT r).map (·.1)).map isK))) (p : ∀ t ∈ r, PairK t.1) : EvP.Gives (tCall (spAsc K) [] E0 (tCons te tNil)) σ H (tup (((toldT r).map (·.1)).map isK)) := fun H1 e Q q =>
  h H1 e _ fun v H2 e2 ⟨a, ws, ev, ha, _, hw⟩ => by
    subst ev
    obtain ⟨bs, rfl, hi⟩ := keys_of hw
    obtain ⟨k1, k2⟩ := asc_pairs hi fun t ht => p t (List.mem_filter.mp ht).1
    refine ⟨a, _, keyH H2, rfl, SqL.of ha, k1, fun p2 H3 e3 np h3 => q _ H3 (e2.trans e3) ⟨p2, _, rfl, h3, ?_⟩⟩
    rw [told_key]
    exact k2.ex e3
/-- amounts[pair] -/
theorem g_look {prs : List V} {ks : List (List Key)} {o2 : Option V} (hd : H d = some (.dT (tents r))) (hk : ∀ k ∈ ks, lookT r k = some (amtT r k)) (h : All2 H (ks.map isK) prs) {v : V} (hv : v ∈ prs) :
    EvP.Gives (tDGet (tVar 1) (tVar 2)) [some (.ref x), some (.ref d), some v, o2] H (is (.int (amtI H r v))) := fun H1 e Q q => by
  obtain ⟨b, k, mk, rfl, hb⟩ := keys_mem h v hv
  refine ⟨_, rfl, _, rfl, d, .int (amtT r k), rfl, ?_, q _ _ (Ex.refl _) (by rw [amtI_of hb]; rfl)⟩
  have z := DGet.t (k := k) (e _ _ hd) (e _ _ hb)
  rw [valV_tents, hk k mk] at z
  exact z
/-- {pair: .. for pair in pairs} -/
theorem comp_dT {tl tv : TE} {i : Nat} {vs : List Nat} {prs : List V} {ks : List (List Key)} (g : List Key → Int) (h : Gives tl σ H (tupV prs)) (hp : All2 H (ks.map isK) prs) (hz : ks.length ≤ 1000) (nod : ks.Nodup) (hi : i < σ.length) (wp : ∀ x, wipe ((wipe σ vs).set i (some x)) vs = wipe σ vs)
    (he : ∀ b k, k ∈ ks → V.ref b ∈ prs → H b = some (.tup (k.map kV)) → Gives tv ((wipe σ vs).set i (some (.ref b))) H (is (.int (g k)))) :
    Gives (Dc1.tDc1 (iTup K tl) (gName i) tYes (tVar i) tv vs) σ H ⟨fun v H' => ∃ a, v = .ref a ∧ H' a = some (.dT (tents (ks.map fun k => (k, g k)))), fun _ _ _ e ⟨a, h1, h2⟩ => ⟨a, h1, e _ _ h2⟩⟩ := fun H1 e1 Q q => by
  refine h H1 e1 _ fun v H2 e2 ⟨a, ev, ha⟩ => ⟨a, ev, ⟨_, SqT.of ha⟩, fun D hD => ?_⟩
  have w := walk_tup (K := K) (a := a) (xs := prs)
  have le := keys_len hp
  refine ⟨fun j m H' => m = prs.length - j ∧ j ≤ prs.length ∧ H' D = some (.dT (tents ((ks.take j).map fun k => (k, g k)))) ∧ Ex H2 H', ⟨prs.length, by simp, Nat.zero_le _, by rw [List.take_zero]; exact upd_same, Ex.new hD⟩, ?_⟩
  rintro j m H' ⟨rfl, hj, a1, a2⟩
  have qt : SqT K H' a prs := SqT.of (a2 _ _ ha)
  by_cases hlt : j < prs.length
  · refine .inr ⟨w.goes j H' hlt qt, fun H'' => H'' D = some (.dT (tents ((ks.take (j + 1)).map fun k => (k, g k)))) ∧ Ex H2 H'', fun H'' p => ⟨prs.length - (j + 1), by omega, rfl, hlt, p⟩, fun y H'' yl => ?_⟩
    obtain ⟨rfl, hx⟩ := w.yields j H' y H'' hlt qt yl
    have eH := (e1.trans e2).trans a2
    obtain ⟨b, k, hk, rfl, hb⟩ := keys_get hp hx
    have lw : (wipe σ vs).length = σ.length := wipe_length σ vs
    refine ⟨wp _, .ref b, by rw [List.getElem?_set_self (by rw [lw]; exact hi)], he b k (List.mem_of_getElem? hk) (List.mem_of_getElem? hx) hb _ eH _ fun v H4 e4 hv => ⟨_, k, b, rfl, e4 _ _ (eH _ _ hb), e4 _ _ a1, ?_, ?_, fun b2 o hb2 => ?_⟩⟩
    · unfold tents
      rw [List.length_map, List.length_map, List.length_take, sizeLine_eq]
      omega
    · have tk : (ks.take (j + 1)).map (fun k => (k, g k)) = (ks.take j).map (fun k => (k, g k)) ++ [(k, g k)] := by
        rw [List.take_add_one, hk, List.map_append]
        rfl
      have nd : (((ks.take j).map (fun k => (k, g k)) ++ [(k, g k)]).map (·.1)).Nodup := by
        rw [← tk, List.map_map]
        show ((ks.take (j + 1)).map id).Nodup
        rw [List.map_id]
        exact nod.sublist (List.take_sublist _ _)
      rw [upd_same, show v = V.int (g k) from hv, tents_put nd, tk]
    · rw [upd_ne (ne_of_none hb2 hD)]
      exact e4 _ _ (a2 _ _ hb2)
  · have e : j = prs.length := by omega
    rw [e, le, List.take_length] at a1
    exact .inl ⟨by rw [e]; exact w.stops H' qt, q _ _ (e2.trans a2) ⟨D, rfl, a1⟩⟩
end
end Fi

set_option Elab.async false
set_option linter.all false
set_option maxRecDepth 100000
set_option maxHeartbeats 4000000
namespace K19
open PySem PySem.Spec PyProof.Rows L2
def top (i : Nat) : Stmt := PySem.Challenge.pw_filledrow_k19_orders_reckoned.main.body.getD i (.Pass ⟨0, 0, 0, 0⟩)
abbrev sPen : Stmt := top 52
abbrev sDraw : Stmt := top 53
abbrev sPick : Stmt := top 54
/-! ### the pen -/
/-- the pen at p: its cells ns at q, how many were drawn, what is left of a great one -/
structure Pen (H : Hp) (p q : Addr) (ns : List Int) (s g : Int) : Prop where
  p : H p = some (.lst [.ref q, .int s, .int g])
  q : H q = some (.lst (ns.map V.int))
theorem Pen.ne {H : Hp} {p q : Addr} {ns : List Int} {s g : Int} (x : Pen H p q ns s g) : p ≠ q := ne_of x.p x.q (by
  intro z
  cases ns with
  | nil => cases z
  | cons a r => cases z)
/-- all stands but at p -/
def But (p : Addr) (H H' : Hp) : Prop := ∀ b o, H b = some o → b ≠ p → H' b = some o
def spPen (K : PySem.W.Frag) : Sp := fun vs H Q _ => ∃ (a : Addr) (ns : List Int), vs = [.ref a] ∧ SqL K H a (ns.map V.int) ∧ ns.length ≤ 63 ∧
  ∀ (p q : Addr) (ms : List Int) (H' : Hp), ms.length ≤ 63 → Pen H' p q ms 0 0 → (∀ b o, H b = some o → H' b = some o) → Q (.ref p) H'
def spDraw : Sp := fun vs H Q _ => ∃ (p q : Addr) (ns : List Int) (s g m : Int), vs = [.ref p, .int m] ∧ Pen H p q ns s g ∧ ns.length ≤ 63 ∧ 0 ≤ s ∧ s < 100000 ∧ 0 < m ∧ m < 100000 ∧
  ∀ (k s' g' : Int) (H' : Hp), 0 ≤ k → k < m → s ≤ s' → s' ≤ s + 1 → Pen H' p q ns s' g' → But p H H' → Q (.int k) H'
/-- the built-ins that are still themselves -/
structure Blt (mg : Str → Option Value) : Prop where
  int : mg "int" = none
  len : mg "len" = none
  abs : mg "abs" = none
  lst : mg "list" = none
section
variable {P : Program} {w : World} {K : PySem.W.Frag} {mg : Str → Option Value} {base : Heap} {f : Addr} {fd : FuncData}
theorem scPen : FnScope ["script"] ["script"] (defScope sPen) := ⟨rfl, rfl, rfl, by decide +kernel, rfl, by decide +kernel, by decide +kernel⟩
theorem ints_cut : ∀ (ns : List Int) (lo hi : Option Int), ∃ ms : List Int, cutV (ns.map V.int) lo hi = ms.map V.int ∧ ms.length ≤ ns.length := by
  intro ns lo hi
  refine ⟨(ns.drop (HT.sIx (ns.map V.int).length 0 lo)).take (HT.sIx (ns.map V.int).length (ns.map V.int).length hi - HT.sIx (ns.map V.int).length 0 lo), ?_, ?_⟩
  · unfold cutV
    rw [List.map_take, List.map_drop]
  · rw [List.length_take, List.length_drop]
    omega
theorem ok_pen (F : Fun K "_law_pen" "_law_pen" sPen f fd) (T : Blt mg) : FnOk P w K mg base CX0 1 f fd ["script"] (spPen K) := by
  refine F.ok scPen (fun vs H Q E h => ?_) (fun cdv A outer s H vs Q E hr h => ?_)
  · obtain ⟨a, ns, rfl, _⟩ := h
    rfl
  · obtain ⟨a, ns, rfl, hS, hl, k⟩ := h
    refine ⟨_, pss_one (ps_ret (pe_lst (pa_cons (pe_callTy call_list_of (by rfl) T.lst (by decide +kernel) (pa_cons (pe_slice sl_list (pv 0) po_none (po_some pe_int)) pa_nil)) (pa_cons pe_int (pa_cons pe_int pa_nil))))), ?_⟩
    obtain ⟨ms, e, hm⟩ := ints_cut ns none (some 63)
    refine ⟨_, rfl, _, rfl, a, _, rfl, hS, fun p hp => ?_⟩
    rw [e]
    refine ⟨p, _, rfl, .inl (SqL.of upd_same), fun l hl' => ⟨by show 3 ≤ sizeLine; decide, fun r hr' => ?_⟩⟩
    have nl : l ≠ p := fun z => by
      rw [z, upd_same] at hl'
      cases hl'
    have nr : r ≠ l := fun z => by
      rw [z, upd_same] at hr'
      cases hr'
    refine k r l ms _ (by omega) ⟨upd_same, by rw [upd_ne nr.symm, upd_same]⟩ fun b o z => ?_
    have z1 : (upd H p (.lst (ms.map V.int))) b = some o := by rw [upd_ne (ne_of_none z hp)]; exact z
    have z2 : (upd (upd H p (.lst (ms.map V.int))) l (.lst (ms.map V.int))) b = some o := by rw [upd_ne (ne_of_none z1 hl')]; exact z1
    rw [upd_ne (ne_of_none z2 hr')]
    exact z2
end
end K19

set_option Elab.async false
set_option linter.all false
set_option maxRecDepth 100000
set_option maxHeartbeats 4000000
namespace K19
open PySem PySem.Spec PyProof.Rows L2
theorem scDraw : FnScope ["pen", "many", "digit", "lap", "cell", "great", "stir"] ["pen", "many"] (defScope sDraw) := ⟨rfl, rfl, rfl, by decide +kernel, rfl, by decide +kernel, by decide +kernel⟩
theorem fm (i : Int) {m : Int} (h : 0 < m) : 0 ≤ i.fmod m ∧ i.fmod m < m := ⟨Int.fmod_nonneg_of_pos i h, Int.fmod_lt_of_pos i h⟩
theorem dp_ints {K : PySem.W.Frag} {H : Hp} : ∀ ns : List Int, DpAll K H (ns.map V.int) (ns.map PyData.int)
  | [] => .nil
  | n :: r => .cons (.int n) (dp_ints r)
theorem lay_ints : ∀ ns : List Int, PyData.canLayAll0 (ns.map PyData.int) = true
  | [] => rfl
  | n :: r => by
    show (PyData.canLay0 (.int n) && PyData.canLayAll0 (r.map PyData.int)) = true
    rw [lay_ints r]
    rfl
theorem deep_ints : ∀ ns : List Int, PyData.depthAll (ns.map PyData.int) ≤ 1
  | [] => Nat.zero_le _
  | n :: r => by
    have := deep_ints r
    show max (PyData.depth (.int n)) (PyData.depthAll (r.map PyData.int)) ≤ 1
    have e : PyData.depth (.int n) = 0 := rfl
    omega
theorem shaped_ints (ns : List Int) : SeqAt.shaped (.list (ns.map PyData.int)) = true := by
  have h1 : PyData.canLay0 (.list (ns.map PyData.int)) = true := lay_ints ns
  have h2 : PyData.depth (.list (ns.map PyData.int)) ≤ 64 := by
    have := deep_ints ns
    show PyData.depthAll (ns.map PyData.int) + 1 ≤ 64
    omega
  unfold SeqAt.shaped
  rw [h1, decide_eq_true h2]
  rfl
theorem eqv_none (ns : List Int) : PyData.eqv (.list (ns.map PyData.int)) (.list []) = ns.isEmpty := by
  cases ns <;> rfl
section
variable {P : Program} {w : World} {K : PySem.W.Frag} {mg : Str → Option Value} {base : Heap} {f : Addr} {fd : FuncData}
theorem ok_draw (F : Fun K "_law_draw" "_law_draw" sDraw f fd) (T : Blt mg) : FnOk P w K mg base CX0 1 f fd ["pen", "many"] spDraw := by
  refine F.ok scDraw (fun vs H Q E h => ?_) (fun cdv A outer s H vs Q E hr h => ?_)
  · obtain ⟨p, q, ns, s, g, m, rfl, _⟩ := h
    rfl
  · obtain ⟨p, q, ns, s, g, m, rfl, hP, hl, hs0, hs1, hm0, hm1, k⟩ := h
    have nd := scDraw.nd
    have hu : (cxOf CX0 P w K mg base ["pen", "many", "digit", "lap", "cell", "great", "stir"] "_law_draw" (defScope sDraw) f cdv A outer ‹Shared› H E).nox.A.units + 64 < cLine := by
      have z := hr.un
      show (A.deeper _).units + 64 < cLine
      omega
    refine ⟨_, pss_cons (ps_if (pt_cmpR op_gt (pe_ix ix_list (pv 0) pe_int (fun _ _ => rfl)) pe_int (nomark _))
        (pss_cons (ps_set (i := 2) nd rfl (Or.inl rfl) (pe_op op_modN (pe_callTy call_int1 (by rfl) T.int (by decide +kernel) (pa_cons (pe_ix ix_list (pv 0) pe_int (fun _ _ => rfl)) pa_nil)) (pv 1)))
          (pss_cons (ps_asg (pe_op op_fdivN (pe_callTy call_int1 (by rfl) T.int (by decide +kernel) (pa_cons (pe_ix ix_list (pv 0) pe_int (fun _ _ => rfl)) pa_nil)) (pv 1)) (pg_sub (pv 0) pe_int set_list))
            (pss_one (ps_ret (pv 2))))) pss_nil)
      (pss_cons (ps_set (i := 3) nd rfl (Or.inl rfl) (pe_ix ix_list (pv 0) pe_int (fun _ _ => rfl)))
      (pss_cons (ps_asg (pe_op op_add (pv 3) pe_int) (pg_sub (pv 0) pe_int set_list))
      (pss_cons (ps_set (i := 4) nd rfl (Or.inl rfl) (pe_op op_add (pe_op op_mul pe_int (pv 3)) pe_int))
      (pss_cons (ps_if (pt_cmpR (op_neD hu) (pe_ix ix_list (pv 0) pe_int (fun _ _ => rfl)) (pe_lst pa_nil) (nomark _))
        (pss_one (ps_set (i := 4) nd rfl (Or.inl rfl) (pe_ix ix_list (pe_ix ix_list (pv 0) pe_int (fun _ _ => rfl))
          (pe_op op_modN (pe_callTy call_int1 (by rfl) T.int (by decide +kernel) (pa_cons (pv 3) pa_nil)) (pe_callB call_len_seq (by rfl) T.len PySem.boot_len (pa_cons (pe_ix ix_list (pv 0) pe_int (fun _ _ => rfl)) pa_nil))) (fun _ _ => rfl)))) pss_nil)
      (pss_cons (ps_if (PW.pt (pw_and (pt_cmpR op_lt (pv 3) (pe_callB call_len_seq (by rfl) T.len PySem.boot_len (pa_cons (pe_ix ix_list (pv 0) pe_int (fun _ _ => rfl)) pa_nil)) (nomark _))
          (pw_and1 (pt_cmpR op_ge (pe_callB call_abs (by rfl) T.abs (by decide +kernel) (pa_cons (pv 4) pa_nil)) (pe_op op_pow pe_int pe_int) (nomark _)))))
        (pss_cons (ps_set (i := 5) nd rfl (Or.inl rfl) (pe_op op_add (pe_op op_mul pe_int (pe_op op_sub (pe_callB call_abs (by rfl) T.abs (by decide +kernel) (pa_cons (pv 4) pa_nil)) (pe_op op_pow pe_int pe_int)))
            (pe_callTy call_int1 (by rfl) T.int (by decide +kernel) (pa_cons (pe_cmpR op_lt (pv 4) pe_int (nomark _)) pa_nil))))
          (pss_cons (ps_asg (pe_op op_fdivN (pe_callTy call_int1 (by rfl) T.int (by decide +kernel) (pa_cons (pv 5) pa_nil)) (pv 1)) (pg_sub (pv 0) pe_int set_list))
            (pss_one (ps_ret (pe_op op_modN (pe_callTy call_int1 (by rfl) T.int (by decide +kernel) (pa_cons (pv 5) pa_nil)) (pv 1)))))) pss_nil)
      (pss_cons (ps_set (i := 6) nd rfl (Or.inl rfl) (pe_op op_modN (pe_callTy call_int1 (by rfl) T.int (by decide +kernel) (pa_cons (pe_op op_pow (pe_op op_add (pe_op op_add (pe_op op_modN (pe_callTy call_int1 (by rfl) T.int (by decide +kernel) (pa_cons (pv 4) pa_nil)) pe_int) (pe_op op_mul pe_int (pv 3))) pe_int) pe_int) pa_nil)) pe_int))
      (pss_cons (ps_set (i := 6) nd rfl (Or.inl rfl) (pe_op op_modN (pe_callTy call_int1 (by rfl) T.int (by decide +kernel) (pa_cons (pe_op op_pow (pe_op op_add (pe_op op_add (pe_op op_mul (pv 6) (pe_op op_add (pe_op op_mul pe_int (pv 3)) pe_int)) (pe_op op_mul (pe_op op_mul pe_int (pv 3)) (pv 3))) pe_int) pe_int) pa_nil)) pe_int))
      (pss_one (ps_ret (pe_op op_modN (pe_callTy call_int1 (by rfl) T.int (by decide +kernel) (pa_cons (pe_op op_fdivN (pv 6) pe_int) pa_nil)) (pv 1))))))))))), ?_⟩
    -- if pen[2] > 0
    refine ⟨_, rfl, p, _, 2, .int g, rfl, rfl, SqL.of hP.p, rfl, g, 0, rfl, rfl, _, rfl, ?_⟩
    refine ite2 (fun c => ?_) (fun c => ?_)
    · refine ⟨_, rfl, p, _, 2, .int g, rfl, rfl, SqL.of hP.p, rfl, .inl ⟨g, rfl, _, rfl, g, m, rfl, rfl, by omega, ?_⟩⟩
      refine ⟨_, rfl, p, _, 2, .int g, rfl, rfl, SqL.of hP.p, rfl, .inl ⟨g, rfl, _, rfl, g, m, rfl, rfl, ⟨by omega, by omega⟩, ?_⟩⟩
      refine ⟨_, rfl, p, _, 2, 2, rfl, rfl, hP.p, rfl, ?_⟩
      refine ⟨_, rfl, k _ s (g.fdiv m) _ (fm g hm0).1 (fm g hm0).2 (Int.le_refl _) (by omega) ⟨upd_same, ?_⟩ fun b o e hb => ?_⟩
      · rw [upd_ne hP.ne.symm]
        exact hP.q
      · rw [upd_ne hb]
        exact e
    · -- spot = pen[1]; pen[1] = spot + 1; cell = ..
      refine ⟨_, rfl, p, _, 1, .int s, rfl, rfl, SqL.of hP.p, rfl, ?_⟩
      refine ⟨_, rfl, s, 1, rfl, rfl, ?_⟩
      refine ⟨_, rfl, p, _, 1, 1, rfl, rfl, hP.p, rfl, ?_⟩
      have hP1 : Pen (upd H p (.lst [.ref q, .int (s + 1), .int g])) p q ns (s + 1) g := ⟨upd_same, by rw [upd_ne hP.ne.symm]; exact hP.q⟩
      have hB1 : But p H (upd H p (.lst [.ref q, .int (s + 1), .int g])) := fun b o e hb => by rw [upd_ne hb]; exact e
      refine ⟨_, rfl, 88411, s, rfl, rfl, .inl ⟨by decide, by decide⟩, _, _, rfl, rfl, ?_⟩
      -- if pen[0] != []
      refine ⟨_, rfl, p, _, 0, .ref q, rfl, rfl, SqL.of hP1.p, rfl, by decide, fun l hl' => ?_⟩
      have hP2 : Pen (upd (upd H p (.lst [.ref q, .int (s + 1), .int g])) l (.lst [])) p q ns (s + 1) g :=
        ⟨by rw [upd_ne (ne_of_none hP1.p hl')]; exact hP1.p, by rw [upd_ne (ne_of_none hP1.q hl')]; exact hP1.q⟩
      have hB2 : But p H (upd (upd H p (.lst [.ref q, .int (s + 1), .int g])) l (.lst [])) := fun b o e hb => by
        rw [upd_ne (ne_of_none (hB1 b o e hb) hl')]
        exact hB1 b o e hb
      refine ⟨_, _, .lst (SqL.of hP2.q) (dp_ints ns), .lst (SqL.of upd_same) .nil, shaped_ints ns, rfl, _, rfl, ?_⟩
      rw [eqv_none]
      cases ns with
      | nil =>
        refine iteF ?_
        refine ⟨_, rfl, _, rfl, p, _, 0, .ref q, rfl, rfl, SqL.of hP2.p, rfl, q, _, rfl, .inl (SqL.of hP2.q), s, _, rfl, rfl, _, rfl, ?_⟩
        have e : decide (s < (((([] : List Int).map V.int).length : Nat) : Int)) = false := decide_eq_false (by show ¬ s < 0; omega)
        rw [e]
        refine iteF (iteF ?_)
        -- mixed = ..
        refine ⟨_, rfl, .inl ⟨88411 * s + 2939, rfl, ?_⟩⟩
        refine ⟨88411 * s + 2939, 2147483579, rfl, rfl, (show (2147483579 : Int) ≠ 0 by decide), ?_⟩
        refine ⟨_, rfl, 6131, s, rfl, rfl, .inl ⟨by decide, by decide⟩, ?_⟩
        refine ⟨_, _, rfl, rfl, _, _, rfl, rfl, ?_⟩
        have b1 := fm (88411 * s + 2939) (show (0 : Int) < 2147483579 by decide)
        refine ⟨_, 5, rfl, rfl, ⟨by decide, by decide, by omega⟩, .inl ⟨_, rfl, _, 2147483629, rfl, rfl, (show (2147483629 : Int) ≠ 0 by decide), ?_⟩⟩
        have b2 := fm ((Int.fmod (88411 * s + 2939) 2147483579 + 6131 * s + 2939) ^ (5 : Int).toNat) (show (0 : Int) < 2147483629 by decide)
        obtain ⟨y, hy⟩ : ∃ y, y = Int.fmod ((Int.fmod (88411 * s + 2939) 2147483579 + 6131 * s + 2939) ^ (5 : Int).toNat) 2147483629 := ⟨_, rfl⟩
        rw [← hy] at b2
        refine ⟨_, rfl, _, rfl, 2, s, rfl, rfl, .inl ⟨by decide, by decide⟩, _, _, rfl, rfl, y, _, congrArg V.int hy.symm, rfl, .inl ⟨by omega, by omega⟩, ?_⟩
        refine ⟨_, rfl, 31337, s, rfl, rfl, .inl ⟨by decide, by decide⟩, _, rfl, _, s, rfl, rfl, .inr ⟨by omega, by omega⟩, ?_⟩
        refine ⟨_, _, rfl, rfl, _, _, rfl, rfl, ?_⟩
        have b3 : 0 ≤ y * (2 * s + 307) ∧ y * (2 * s + 307) ≤ 2147483629 * 300000 := ⟨Int.mul_nonneg b2.1 (by omega), Int.mul_le_mul (by omega) (by omega) (by omega) (by decide)⟩
        have b4 : 0 ≤ 31337 * s * s ∧ 31337 * s * s ≤ 3133700000 * 100000 := ⟨Int.mul_nonneg (by omega) hs0, Int.mul_le_mul (by omega) (by omega) hs0 (by decide)⟩
        refine ⟨_, 3, rfl, rfl, ⟨by decide, by decide, by omega⟩, .inl ⟨_, rfl, _, 2147483563, rfl, rfl, (show (2147483563 : Int) ≠ 0 by decide), ?_⟩⟩
        refine ⟨_, rfl, _, 32, rfl, rfl, ⟨by decide, by decide⟩, .inl ⟨_, rfl, _, rfl, _, m, rfl, rfl, by omega, ?_⟩⟩
        exact k _ (s + 1) g _ (fm _ hm0).1 (fm _ hm0).2 (by omega) (Int.le_refl _) hP2 hB2
      | cons n0 r =>
        refine iteT ?_
        -- cell = pen[0][int(spot) % len(pen[0])]
        refine ⟨_, rfl, p, _, 0, .ref q, rfl, rfl, SqL.of hP2.p, rfl, ?_⟩
        refine ⟨_, rfl, .inl ⟨s, rfl, _, rfl, p, _, 0, .ref q, rfl, rfl, SqL.of hP2.p, rfl, q, _, rfl, .inl (SqL.of hP2.q), s, _, rfl, rfl, ?_, ?_⟩⟩
        · rw [List.length_map, List.length_cons]
          omega
        have hn : (0 : Int) < (((((n0 :: r) : List Int).map V.int).length : Nat) : Int) := by
          rw [List.length_map, List.length_cons]
          omega
        have b0 := fm s hn
        obtain ⟨c, hc⟩ : ∃ c : Int, atI ((n0 :: r).map V.int) (s.fmod ((((n0 :: r).map V.int).length : Nat) : Int)) = some (.int c) := by
          have hj : (s.fmod ((((n0 :: r).map V.int).length : Nat) : Int)).toNat < (n0 :: r).length := by
            rw [List.length_map] at b0 ⊢
            omega
          refine ⟨(n0 :: r)[(s.fmod ((((n0 :: r).map V.int).length : Nat) : Int)).toNat]'hj, at_of (j := (s.fmod ((((n0 :: r).map V.int).length : Nat) : Int)).toNat) (by omega) ?_⟩
          rw [List.getElem?_map, List.getElem?_eq_getElem hj]
          rfl
        refine ⟨q, _, _, .int c, rfl, rfl, SqL.of hP2.q, hc, ?_⟩
        -- if spot < len(pen[0]) and abs(cell) >= 10 ** 18
        refine ⟨_, rfl, _, rfl, p, _, 0, .ref q, rfl, rfl, SqL.of hP2.p, rfl, q, _, rfl, .inl (SqL.of hP2.q), s, _, rfl, rfl, _, rfl, ?_⟩
        refine ite2 (fun c1 => ?_) (fun c1 => iteF ?_)
        · refine ⟨_, rfl, c, rfl, 10, 18, rfl, rfl, ⟨by decide, by decide, by decide⟩, _, _, rfl, rfl, _, rfl, ?_⟩
          refine ite2 (fun c2 => ?_) (fun c2 => ?_)
          · -- great
            refine ⟨_, rfl, c, rfl, 10, 18, rfl, rfl, ⟨by decide, by decide, by decide⟩, _, _, rfl, rfl, 2, _, rfl, rfl, .inl ⟨by decide, by decide⟩, ?_⟩
            refine ⟨_, rfl, c, 0, rfl, rfl, .inr ⟨_, rfl, _, _, rfl, rfl, ?_⟩⟩
            refine ⟨_, rfl, .inl ⟨_, rfl, _, rfl, _, m, rfl, rfl, ⟨by omega, by omega⟩, ?_⟩⟩
            refine ⟨_, rfl, p, _, 2, 2, rfl, rfl, hP2.p, rfl, ?_⟩
            refine ⟨_, rfl, .inl ⟨_, rfl, _, rfl, _, m, rfl, rfl, by omega, ?_⟩⟩
            refine k _ (s + 1) _ _ (fm _ hm0).1 (fm _ hm0).2 (by omega) (Int.le_refl _) ⟨upd_same, ?_⟩ fun b o e hb => ?_
            · rw [upd_ne hP2.ne.symm]
              exact hP2.q
            · rw [upd_ne hb]
              exact hB2 b o e hb
          · show tNext _ _ _
            -- mixed = ..
            refine ⟨_, rfl, .inl ⟨c, rfl, ?_⟩⟩
            refine ⟨c, 2147483579, rfl, rfl, (show (2147483579 : Int) ≠ 0 by decide), ?_⟩
            refine ⟨_, rfl, 6131, s, rfl, rfl, .inl ⟨by decide, by decide⟩, ?_⟩
            refine ⟨_, _, rfl, rfl, _, _, rfl, rfl, ?_⟩
            have b1 := fm (c) (show (0 : Int) < 2147483579 by decide)
            refine ⟨_, 5, rfl, rfl, ⟨by decide, by decide, by omega⟩, .inl ⟨_, rfl, _, 2147483629, rfl, rfl, (show (2147483629 : Int) ≠ 0 by decide), ?_⟩⟩
            have b2 := fm ((Int.fmod (c) 2147483579 + 6131 * s + 2939) ^ (5 : Int).toNat) (show (0 : Int) < 2147483629 by decide)
            obtain ⟨y, hy⟩ : ∃ y, y = Int.fmod ((Int.fmod (c) 2147483579 + 6131 * s + 2939) ^ (5 : Int).toNat) 2147483629 := ⟨_, rfl⟩
            rw [← hy] at b2
            refine ⟨_, rfl, _, rfl, 2, s, rfl, rfl, .inl ⟨by decide, by decide⟩, _, _, rfl, rfl, y, _, congrArg V.int hy.symm, rfl, .inl ⟨by omega, by omega⟩, ?_⟩
            refine ⟨_, rfl, 31337, s, rfl, rfl, .inl ⟨by decide, by decide⟩, _, rfl, _, s, rfl, rfl, .inr ⟨by omega, by omega⟩, ?_⟩
            refine ⟨_, _, rfl, rfl, _, _, rfl, rfl, ?_⟩
            have b3 : 0 ≤ y * (2 * s + 307) ∧ y * (2 * s + 307) ≤ 2147483629 * 300000 := ⟨Int.mul_nonneg b2.1 (by omega), Int.mul_le_mul (by omega) (by omega) (by omega) (by decide)⟩
            have b4 : 0 ≤ 31337 * s * s ∧ 31337 * s * s ≤ 3133700000 * 100000 := ⟨Int.mul_nonneg (by omega) hs0, Int.mul_le_mul (by omega) (by omega) hs0 (by decide)⟩
            refine ⟨_, 3, rfl, rfl, ⟨by decide, by decide, by omega⟩, .inl ⟨_, rfl, _, 2147483563, rfl, rfl, (show (2147483563 : Int) ≠ 0 by decide), ?_⟩⟩
            refine ⟨_, rfl, _, 32, rfl, rfl, ⟨by decide, by decide⟩, .inl ⟨_, rfl, _, rfl, _, m, rfl, rfl, by omega, ?_⟩⟩
            exact k _ (s + 1) g _ (fm _ hm0).1 (fm _ hm0).2 (by omega) (Int.le_refl _) hP2 hB2
        · -- mixed = ..
          refine ⟨_, rfl, .inl ⟨c, rfl, ?_⟩⟩
          refine ⟨c, 2147483579, rfl, rfl, (show (2147483579 : Int) ≠ 0 by decide), ?_⟩
          refine ⟨_, rfl, 6131, s, rfl, rfl, .inl ⟨by decide, by decide⟩, ?_⟩
          refine ⟨_, _, rfl, rfl, _, _, rfl, rfl, ?_⟩
          have b1 := fm (c) (show (0 : Int) < 2147483579 by decide)
          refine ⟨_, 5, rfl, rfl, ⟨by decide, by decide, by omega⟩, .inl ⟨_, rfl, _, 2147483629, rfl, rfl, (show (2147483629 : Int) ≠ 0 by decide), ?_⟩⟩
          have b2 := fm ((Int.fmod (c) 2147483579 + 6131 * s + 2939) ^ (5 : Int).toNat) (show (0 : Int) < 2147483629 by decide)
          obtain ⟨y, hy⟩ : ∃ y, y = Int.fmod ((Int.fmod (c) 2147483579 + 6131 * s + 2939) ^ (5 : Int).toNat) 2147483629 := ⟨_, rfl⟩
          rw [← hy] at b2
          refine ⟨_, rfl, _, rfl, 2, s, rfl, rfl, .inl ⟨by decide, by decide⟩, _, _, rfl, rfl, y, _, congrArg V.int hy.symm, rfl, .inl ⟨by omega, by omega⟩, ?_⟩
          refine ⟨_, rfl, 31337, s, rfl, rfl, .inl ⟨by decide, by decide⟩, _, rfl, _, s, rfl, rfl, .inr ⟨by omega, by omega⟩, ?_⟩
          refine ⟨_, _, rfl, rfl, _, _, rfl, rfl, ?_⟩
          have b3 : 0 ≤ y * (2 * s + 307) ∧ y * (2 * s + 307) ≤ 2147483629 * 300000 := ⟨Int.mul_nonneg b2.1 (by omega), Int.mul_le_mul (by omega) (by omega) (by omega) (by decide)⟩
          have b4 : 0 ≤ 31337 * s * s ∧ 31337 * s * s ≤ 3133700000 * 100000 := ⟨Int.mul_nonneg (by omega) hs0, Int.mul_le_mul (by omega) (by omega) hs0 (by decide)⟩
          refine ⟨_, 3, rfl, rfl, ⟨by decide, by decide, by omega⟩, .inl ⟨_, rfl, _, 2147483563, rfl, rfl, (show (2147483563 : Int) ≠ 0 by decide), ?_⟩⟩
          refine ⟨_, rfl, _, 32, rfl, rfl, ⟨by decide, by decide⟩, .inl ⟨_, rfl, _, rfl, _, m, rfl, rfl, by omega, ?_⟩⟩
          exact k _ (s + 1) g _ (fm _ hm0).1 (fm _ hm0).2 (by omega) (Int.le_refl _) hP2 hB2
end
end K19

set_option Elab.async false
set_option linter.all false
set_option maxRecDepth 100000
set_option maxHeartbeats 4000000
/-! Signs of own instances: a def of the class that keeps a promise, asked by a sign. -/
namespace Own
open PySem PySem.Spec PyProof.Rows L2
/-- the method m of the class at C: its def at f keeps sp -/
structure Mt (P : Program) (w : World) (K : PySem.W.Frag) (mg : Str → Option Value) (base : Heap) (C : Addr) (m : Str) (k : Nat) (ps : List Str) (sp : Sp) (f : Addr) (fd : FuncData) : Prop where
  at_ : PySem.W.findIn K (.ref C) m = some (some (.ref f))
  fn : PySem.W.isFn K (.ref f) = true
  ok : FnOk P w K mg base CX0 k f fd ps sp
  b : Binds K fd ps []
section
variable {X : Cx} {pins : List (Addr × Obj)} {σ : L2.St} {H : Hp} {s : Shared} {C f : Addr} {fd : FuncData} {k : Nat} {ps : List Str} {sp : Sp} {m : Str}
/-- the call of a def within the builtins that the frame runs -/
theorem run_at {A' : Around} {vs : List V} {us : List Value} {Q : VK} (F : FnOk X.prog X.w X.K X.mg X.base CX0 k f fd ps sp) (b : Binds X.K fd ps []) (frames : A'.frames = X.A.frames) (hr : Room k A') (I : Inv X pins σ H s) (r : Vals vs us) (h : sp vs H Q E0) :
    wpAny (model X.prog X.w) A' (call (.ref f) us) (EP X pins σ Q) X.xe s := by
  have e := I.env0
  have n : (us ++ []).length = ps.length := by rw [List.append_nil, ← r.length]; exact F.len _ _ _ _ h
  refine wpAny_call (codeAny_mono (F.run A' X.stack s H ⟨us, []⟩ (us ++ []) vs Q E0 hr ⟨frames.trans e.frames, e.mod, e.bs, e.bsz, e.funs, e.frf, e.hok, e.bare⟩ (b s us I.kIn n) (by rw [List.append_nil]; exact r) h) fun r s' q => ?_)
  cases r with
  | error e => exact (show False from q).elim
  | ok fl =>
    cases fl with
    | ret u => exact I.after q
    | next => exact (show False from q).elim
    | brk => exact (show False from q).elim
    | cont => exact (show False from q).elim
theorem ins_at {a dx : Addr} {fs : List (Str × V)} (I : Inv X pins σ H s) (e : H a = some (.ins C dx fs)) : ∃ ox od, PySem.W.InstAt s.heap a ox C od := by
  obtain ⟨mA, O, _⟩ := ins_get I.hok e
  obtain ⟨od, J, _⟩ := O.look
  exact ⟨_, _, J⟩
theorem not_ni {v : V} {u : Value} (r : RelV v u) : u ≠ .notImplemented := by
  rintro rfl
  cases v with
  | non => cases (show Value.notImplemented = Value.none from r)
  | bl b => cases (show Value.notImplemented = Value.bool b from r)
  | int i => obtain ⟨t, e⟩ := (show ∃ t, Value.notImplemented = Value.int i t from r); cases e
  | str i => obtain ⟨t, e⟩ := (show ∃ t, Value.notImplemented = Value.str i t from r); cases e
  | byt i => obtain ⟨t, e⟩ := (show ∃ t, Value.notImplemented = Value.bytes i t from r); cases e
  | flt i => obtain ⟨t, e⟩ := (show ∃ t, Value.notImplemented = Value.float i t from r); cases e
  | ref i => cases (show Value.notImplemented = Value.ref i from r)
  | ty i => cases (show Value.notImplemented = Value.type i from r)
theorem cmp_back {Q : VK} {u : Value} {s' : Shared} (h : EP X pins σ Q u s') : PySem.W.CmpBack (EP X pins σ Q) u s' := by
  obtain ⟨v, H', I', r, q⟩ := h
  have n := not_ni r
  cases u <;> first | exact absurd rfl n | exact ⟨v, H', I', r, q⟩
/-- an instance of the class at C -/
def Ins (H : Hp) (x : V) (C : Addr) : Prop := ∃ a dx fs, x = .ref a ∧ H a = some (.ins C dx fs)
/-- x op y, both of the class -/
def rOwn (C : Addr) (sp : Sp) : R2 := fun x y H Q => Ins H x C ∧ Ins H y C ∧ sp [x, y] H Q E0
theorem op_own {op : Operator} (M : Mt X.prog X.w X.K X.mg X.base C (PySem.dunder op.info.2) k ps sp f fd) (first : PySem.W.selfFirst X.K C = true) (hr : Room k X.A) : OpR X (binaryOp op) (rOwn C sp) := by
  intro pins s σ H x y v u Q I rx ry h
  obtain ⟨⟨a, dx, fs, rfl, ha⟩, ⟨b, dy, gs, rfl, hb⟩, h⟩ := h
  cases rx
  cases ry
  obtain ⟨ox, od, J⟩ := ins_at I ha
  obtain ⟨oy, oe, L⟩ := ins_at I hb
  obtain ⟨m, fr⟩ := I.fr
  exact PySem.W.binop_K fr I.ok.mod.kin J L.type first M.at_ M.fn (wpAny_mono (run_at M.ok M.b rfl hr I (.cons (show RelV (V.ref a) (Value.ref a) from rfl) (.cons (show RelV (V.ref b) (Value.ref b) from rfl) .nil)) h) (fun _ _ z => cmp_back z) fun _ _ z => z)
/-- x op y, a comparison that is no identity: y's type is told by t -/
def rCmpOwn (K : PySem.W.Frag) (C : Addr) (sp : Sp) : R2 := fun x y H Q => Ins H x C ∧ Ins H y C ∧ sp [x, y] H Q E0
theorem cmp_own {op : CmpOp} (M : Mt X.prog X.w X.K X.mg X.base C (cmpInfo op).2.1 k ps sp f fd) (hr : Room k X.A) (hop : ∀ a b : Value, compareOp op a b = richCompare op a b := by intro _ _; rfl) : OpR X (compareOp op) (rCmpOwn X.K C sp) := by
  intro pins s σ H x y v u Q I rx ry h
  obtain ⟨⟨a, dx, fs, rfl, ha⟩, ⟨b, dy, gs, rfl, hb⟩, h⟩ := h
  cases rx
  cases ry
  obtain ⟨ox, od, J⟩ := ins_at I ha
  obtain ⟨oy, oe, L⟩ := ins_at I hb
  obtain ⟨m, fr⟩ := I.fr
  rw [hop]
  exact PySem.W.cmp_K (tb := .ref C) (by have := hr.un; omega) fr I.ok.mod.kin J L.type (by unfold PySem.W.notFirst; simp) M.at_ M.fn (wpAny_mono (run_at M.ok M.b rfl hr I (.cons (show RelV (V.ref a) (Value.ref a) from rfl) (.cons (show RelV (V.ref b) (Value.ref b) from rfl) .nil)) h) (fun _ _ z => cmp_back z) fun _ _ z => z)
/-- y in x, by the class's own def, which answers True or False -/
def rInOwn (neg : Bool) (C : Addr) (sp : Sp) : R2 := fun y x H Q => Ins H x C ∧ sp [x, y] H (fun v H' => ∃ b, v = .bl b ∧ Q (.bl (if neg then !b else b)) H') E0
theorem in_own (M : Mt X.prog X.w X.K X.mg X.base C "__contains__" k ps sp f fd) (hr : Room k X.A) : OpR X (compareOp .In) (rInOwn false C sp) := by
  intro pins s σ H y x v u Q I ry rx h
  obtain ⟨⟨a, dx, fs, rfl, ha⟩, h⟩ := h
  cases rx
  obtain ⟨ox, od, J⟩ := ins_at I ha
  obtain ⟨m, fr⟩ := I.fr
  refine PySem.W.in_K fr I.ok.mod.kin J M.at_ M.fn (wpAny_mono (run_at M.ok M.b rfl hr I (.cons (show RelV (V.ref a) (Value.ref a) from rfl) (.cons ry .nil)) h) (fun r s' z => ?_) fun _ _ z => z)
  obtain ⟨v', H', I', rv, b, rfl, q⟩ := z
  obtain rfl : r = Value.bool b := rv
  exact wpAny_truthy_bool ⟨.bl b, _, I', rfl, q⟩
theorem notIn_own (M : Mt X.prog X.w X.K X.mg X.base C "__contains__" k ps sp f fd) (hr : Room k X.A) : OpR X (compareOp .NotIn) (rInOwn true C sp) := by
  intro pins s σ H y x v u Q I ry rx h
  obtain ⟨⟨a, dx, fs, rfl, ha⟩, h⟩ := h
  cases rx
  obtain ⟨ox, od, J⟩ := ins_at I ha
  obtain ⟨m, fr⟩ := I.fr
  refine PySem.W.notIn_K fr I.ok.mod.kin J M.at_ M.fn (wpAny_mono (run_at M.ok M.b rfl hr I (.cons (show RelV (V.ref a) (Value.ref a) from rfl) (.cons ry .nil)) h) (fun r s' z => ?_) fun _ _ z => z)
  obtain ⟨v', H', I', rv, b, rfl, q⟩ := z
  obtain rfl : r = Value.bool b := rv
  exact wpAny_truthy_bool ⟨.bl (!b), _, I', rfl, q⟩
/-- x[y] by the class's own def -/
def rIxOwn (C : Addr) (sp : Sp) : R2 := fun x y H Q => Ins H x C ∧ sp [x, y] H Q E0
theorem ix_own (M : Mt X.prog X.w X.K X.mg X.base C "__getitem__" k ps sp f fd) (fi : PySem.W.fnIn X.K f = true) (hr : Room (k + 1) X.A)
    (hsl : ∀ (slice : Expr) (v u : Value), subscripted slice true v u = runValue (.builtin "lifetime.subscript" ⟨[v, u], []⟩) := by intro _ _ _; with_unfolding_all rfl) : IxR X (rIxOwn C sp) := by
  intro value slice pins s σ H x y v u Q I rx ry h hs
  obtain ⟨⟨a, dx, fs, rfl, ha⟩, h⟩ := h
  cases rx
  obtain ⟨ox, od, J⟩ := ins_at I ha
  obtain ⟨m, fr⟩ := I.fr
  exact PySem.W.sub_K fr I.ok.mod.kin J M.at_ fi M.fn (run_at M.ok M.b rfl hr.in1 I (.cons (show RelV (V.ref a) (Value.ref a) from rfl) (.cons ry .nil)) h) (hsl _ _ _)
/-- len(x) by the class's own def -/
def rLenOwn (C : Addr) (sp : Sp) : List V → Hp → VK → Prop := fun xs H Q => ∃ x, xs = [x] ∧ Ins H x C ∧ sp [x] H (fun v H' => ∃ n : Nat, v = .int n ∧ n < 1000000 ∧ Q (.int n) H') E0
theorem call_lenOwn (M : Mt X.prog X.w X.K X.mg X.base C "__len__" k ps sp f fd) (hr : Room (k + 1) X.A) : CallR X (.builtin "len") (rLenOwn C sp) := by
  intro pins s σ H xs us Q I r h
  obtain ⟨_, rfl, ⟨a, dx, fs, rfl, ha⟩, h⟩ := h
  obtain ⟨u, rfl, ru⟩ := vals1 r
  cases ru
  obtain ⟨ox, od, J⟩ := ins_at I ha
  obtain ⟨m, fr⟩ := I.fr
  refine PySem.W.len_K fr I.ok.mod.kin J M.at_ M.fn (wpAny_mono (run_at M.ok M.b rfl hr.in1 I (.cons (show RelV (V.ref a) (Value.ref a) from rfl) .nil) h) (fun r s' z => ?_) fun _ _ z => z)
  obtain ⟨v', H', I', rv, n, rfl, hn, q⟩ := z
  obtain ⟨t, rfl⟩ := rv
  exact ⟨⟨by omega, by omega⟩, .int n, H', I'.tok _, ⟨_, rfl⟩, q⟩
/-- str(x) by the class's own def -/
def rStrOwn (C : Addr) (sp : Sp) : List V → Hp → VK → Prop := fun xs H Q => ∃ x, xs = [x] ∧ Ins H x C ∧ sp [x] H (fun v H' => ∃ z : Str, v = .str z ∧ Q (.str z) H') E0
theorem call_strOwn (M : Mt X.prog X.w X.K X.mg X.base C "__str__" k ps sp f fd) (hr : Room (k + 2) X.A) : CallR X (.type "str") (rStrOwn C sp) := by
  intro pins s σ H xs us Q I r h
  obtain ⟨_, rfl, ⟨a, dx, fs, rfl, ha⟩, h⟩ := h
  obtain ⟨u, rfl, ru⟩ := vals1 r
  cases ru
  obtain ⟨ox, od, J⟩ := ins_at I ha
  refine PySem.W.kso_call (by have := hr.un; show X.A.units + 1 + 1 < cLine; omega) I.kIn J M.at_ M.fn (wpAny_mono (run_at M.ok M.b rfl hr.in1.in1 I (.cons (show RelV (V.ref a) (Value.ref a) from rfl) .nil) h) (fun r s' z => ?_) fun _ _ z => z)
  obtain ⟨v', H', I', rv, t, rfl, q⟩ := z
  obtain ⟨u, rfl⟩ := rv
  exact ⟨.str t, H', I', ⟨_, rfl⟩, q⟩
/-- ~x by the class's own def -/
theorem un_own (M : Mt X.prog X.w X.K X.mg X.base C "__invert__" k ps sp f fd) (hr : Room k X.A) : UnR X (unaryOp .Invert) (fun x H Q => Ins H x C ∧ sp [x] H Q E0) := by
  intro pins s σ H x v Q I rx h
  obtain ⟨⟨a, dx, fs, rfl, ha⟩, h⟩ := h
  cases rx
  obtain ⟨ox, od, J⟩ := ins_at I ha
  obtain ⟨m, fr⟩ := I.fr
  exact PySem.W.ksp_inv fr I.ok.mod.kin J M.at_ M.fn (run_at M.ok M.b rfl hr I (.cons (show RelV (V.ref a) (Value.ref a) from rfl) .nil) h)
end
end Own

set_option Elab.async false
set_option linter.all false
set_option maxRecDepth 100000
set_option maxHeartbeats 4000000
/-! An own instance is walked: its __iter__ hands back the iterator of a tuple. -/
namespace Own
open PySem PySem.Spec PyProof.Rows L2 ItX
/-- at it an iterator over the tuple at t, at its start -/
def ItT (t it : Addr) : HO := .ext fun h => h.IsTupleIter it t 0
theorem itT_ok {P : Program} {w : World} {H : Hp} {h : Heap} {t it : Addr} (e : h.IsTupleIter it t 0) : ObjOk P w H h it (ItT t it) := by
  obtain ⟨o, ho, r⟩ := e
  exact ⟨⟨o, ho, r⟩, ⟨o, ho⟩, fun h1 h2 z k => by
    obtain ⟨o1, e1, r1⟩ := z
    exact ⟨o1, k _ e1, r1⟩⟩
section
variable {X : Cx} {pins : List (Addr × Obj)} {σ : L2.St} {H : Hp} {s : Shared}
theorem itT_get {t it : Addr} (I : Inv X pins σ H s) (e : H it = some (ItT t it)) : s.heap.IsTupleIter it t 0 := by
  have x : ObjOk X.prog X.w H s.heap it (.ext fun h => h.IsTupleIter it t 0) := I.hok it _ e
  exact x.1
/-- iter(t), t a tuple; n: what the heap held when the def began -/
def rIterT (K : PySem.W.Frag) (n : Nat) : List V → Hp → VK → Prop := fun xs H Q => ∃ (t : Addr) (zs : List V), xs = [.ref t] ∧ SqT K H t zs ∧ ∀ it, H it = none → n ≤ it → Q (.ref it) (upd H it (ItT t it))
theorem call_iterT : CallR X (.builtin "iter") (rIterT X.K X.s_0.heap.objs.size) := by
  intro pins s σ H xs us Q I r h
  obtain ⟨t, zs, rfl, hq, q⟩ := h
  obtain ⟨u, rfl, ru⟩ := vals1 r
  cases ru
  obtain ⟨its, rv, p, hz⟩ := I.tuple hq
  refine Calls.call_function_entry (by decide +kernel) (by decide +kernel) PySem.W.kdk_entry_iter (PySem.W.kdk_args_iter _) ?_
  unfold Builtin.«iter»
  refine wpAny_bind (m := someArgs "iter" 1 2 _) (wpAny_of_eq (a := [Value.ref t]) (by first | rfl | kernel_rfl!) ?_)
  show wpAny _ _ (pyIter (.ref t) >>= _) _ _ _
  refine wpAny_bind (wpAny_pyIter_tuple (show s.heap.IsTuple t its.toArray from p) (wpAny_pure ⟨_, rfl, ?_⟩))
  have new : (s.heap.push { cls := .type "tuple_iterator", data := .fields #[.ref t, .int 0 0] }).IsTupleIter s.heap.objs.size t 0 := ⟨_, Heap.get?_push_size _ rfl, rfl, rfl⟩
  exact ⟨.ref s.heap.objs.size, _, I.laid (t' := s.toks) (fun b u e => Heap.get?_push_of_some _ e) (Nat.le_refl _) (itT_ok new), rfl, q _ (I.hok.fresh (Nat.le_refl _)) I.sz⟩
end
section
variable {P : Program} {w : World} {K : PySem.W.Frag} {mg : Str → Option Value} {base : Heap} {k : Nat} {f : Addr} {fd : FuncData} {ps : List Str}
/-- a def whose promise may speak of the size of the heap at its call -/
structure FnZ (P : Program) (w : World) (K : PySem.W.Frag) (mg : Str → Option Value) (base : Heap) (k : Nat) (f : Addr) (ps : List Str) (fd : FuncData) (sp : Nat → Sp) : Prop where
  run : ∀ (A : Around) (outer : List Env) (s : Shared) (H : Hp) (args : Args) (us : List Value) (vs : List V) (Q : VK), Room k A → Env0 P w K mg base A outer s H →
    BindsTo s fd args (ps.zip us) → Vals vs us → vs.length = ps.length → sp s.heap.objs.size vs H Q E0 → codeAny (model P w) A (.call (.ref f) args) (CR CX0 outer P w H s Q E0) s
theorem Fun.okZ {sp : Nat → Sp} {x qual : Str} {st : Stmt} {N : List Str} (F : Fun K x qual st f fd) (S : FnScope N ps (defScope st))
    (walk : ∀ (cdv : Value) (A : Around) (outer : List Env) (s : Shared) (H : Hp) (vs : List V) (Q : VK), Room k (A.deeper (envOfC qual (defScope st) s.heap.objs.size f cdv)) → sp s.heap.objs.size vs H Q E0 →
      ∃ t, PSs (cxOf CX0 P w K mg base N qual (defScope st) f cdv A outer s H E0).nox (defBody st) t ∧ t { nx := fun _ H' => Q .non H', rt := Q } (start N vs) H) : FnZ P w K mg base (k + 1) f ps fd sp := by
  obtain ⟨oc, od, kV, doc, pm, an, cdv, ct, osl, rfl, lk, hcd⟩ := F.ex
  refine ⟨fun A outer s H args us vs Q room e0 bd r n1 h => ?_⟩
  have inH : ∀ b o, base.get? b = some o → s.heap.get? b = some o := fun b o e => (e0.bs b o e).1
  have kin : K.In s.heap := e0.mod.kin.keeps inH
  have par : ∀ y ∈ ps.zip us, (defScope st).names.lookup y.1 = some .local ∨ ((defScope st).names.lookup y.1 = some .cell ∧ ((cellsFrom (s.heap.objs.size + 1) (defScope st).names []).lookup y.1).isSome = true) := by
    rintro ⟨y, z⟩ hy
    exact (S.par y (List.of_mem_zip hy).1).imp id fun q => ⟨q, PySem.W.cellsFrom_some _ _ _ (.inl q)⟩
  refine codeAny_call_function room.depth (kin _ _ lk) rfl S.co S.gen rfl (PySem.W.codeRec_of kin hcd) (bd _ _ _ _ (wpAny_newFunctionEnv_cells S.kind par fun env he s1 z => ?_))
  subst he
  refine ⟨(e0.mod.nolimit.keeps inH).keeps z.toInCall.keep, codeAny_func ?_⟩
  obtain ⟨t, ok, ends⟩ := walk cdv A outer s H vs Q (room.deeper _) h
  have J := inv_start (CX := CX0) (E := E0) S room.hd e0 n1 r z
  refine wpAny_mono (ok.nox.run [] s1 _ H _ J ends) (fun fl s' q => ?_) fun e s' q => q
  rcases fl with u | _ | _ | _
  all_goals first
    | (obtain ⟨v, σ', H', J', rv, q⟩ := q; exact ⟨v, H', J'.os, J'.bare, J'.base, J'.hok, rv, q⟩)
    | (obtain ⟨σ', H', J', q⟩ := q; exact ⟨V.non, H', J'.os, J'.bare, J'.base, J'.hok, rfl, q⟩)
    | (obtain ⟨_, _, _, q⟩ := q; exact q.elim)
end
section
variable {X : Cx} {C f : Addr} {fd : FuncData} {k : Nat} {ps : List Str} {sp : Nat → Sp} {tg e : Expr} {te : TE}
/-- for .. in e, e an own instance -/
def iOwn (K : PySem.W.Frag) (C : Addr) (sp : Nat → Sp) (te : TE) : TI := fun σ H R => te σ H fun x H1 => Ins H1 x C ∧ ∀ n, sp n [x] H1 (fun v H2 => ∃ it t, v = .ref it ∧ H2 it = some (ItT t it) ∧ n ≤ it ∧ R (Itt K t) (dropH H2 it)) E0
theorem pi_own (at_ : PySem.W.findIn X.K (.ref C) "__iter__" = some (some (.ref f))) (fn : PySem.W.isFn X.K (.ref f) = true) (F : FnZ X.prog X.w X.K X.mg X.base k f ["self"] fd sp) (b : Binds X.K fd ["self"] []) (hr : Room k X.A) (he : PE X e te) : PI X tg e (iOwn X.K C sp te) := by
  refine ⟨fun pins s σ H R I h => thn (he.run pins s σ H _ I h) fun v s1 ⟨x, H1, I1, r1, ⟨a, dx, fs, ex, ha⟩, q⟩ => ?_⟩
  subst ex
  cases r1
  obtain ⟨ox, od, J⟩ := ins_at I1 ha
  obtain ⟨m, fr⟩ := I1.fr
  have e0 := I1.env0
  refine PySem.W.owit_iter fr I1.ok.mod.kin J at_ fn (wpAny_call (codeAny_mono (F.run X.A X.stack s1 H1 ⟨[.ref a], []⟩ [.ref a] [.ref a] _ hr e0 (b s1 [.ref a] I1.kIn rfl) (.cons rfl .nil) rfl (q s1.heap.objs.size)) fun r s' z => ?_))
  cases r with
  | error e => exact (show False from z).elim
  | ok fl =>
    cases fl with
    | next => exact (show False from z).elim
    | brk => exact (show False from z).elim
    | cont => exact (show False from z).elim
    | ret u =>
      obtain ⟨v, H2, I2, rv, it, t, rfl, hi, hn, hR⟩ := I1.after z
      cases rv
      have st := itT_get I2 hi
      obtain ⟨o, ho, hc, hd⟩ := id st
      show PySem.W.OwitIt _ _ _ _ _ _
      unfold PySem.W.OwitIt specialOf
      have ty : s'.TypeIs (.ref it) "tuple_iterator" := ⟨o, ho, hc⟩
      refine wpAny_bind (wpAny_typeOf ty ?_)
      rw [PySem.F.slot_tuple_iterator_next.lookup]
      refine wpAny_pure ?_
      have hi' := hi
      unfold ItT at hi'
      refine ⟨it, [it], _, _, dropH H2 it, rfl, inv_drop I2 hi', turn_tuple t it, st, fun b hb => ?_, hR⟩
      obtain rfl : b = it := by simpa using hb
      exact inv_fp I2 hi (Nat.le_trans I1.sz hn)
end
end Own

set_option Elab.async false
set_option linter.all false
set_option maxRecDepth 100000
set_option maxHeartbeats 4000000
/-! Side.__eq__ and Side.__iter__. -/
namespace Fk
open PySem PySem.Spec PyProof.Rows L2 EvP Cm
abbrev sIter : Stmt := meth 3
abbrev sEq : Stmt := meth 16
/-- a row as data -/
def rowD (t : Str × Int) : PyData := .tuple [.str t.1, .int t.2]
def rowsD (ts : Row) : PyData := .tuple (ts.map rowD)
theorem dp_rows {K : PySem.W.Frag} {H : Hp} : ∀ {ts : Row} {rows : List V}, All2 H (ts.map fun t => tupV [V.str t.1, .int t.2]) rows → DpAll K H rows (ts.map rowD)
  | [], _, .nil => .nil
  | _ :: _, _, .cons ⟨_, ev, ha⟩ r => by
    subst ev
    exact .cons (.tup (SqT.of ha) (.cons (.str _) (.cons (.int _) .nil))) (dp_rows r)
theorem eqv_rows : ∀ ts us : Row, PyData.eqvAll (ts.map rowD) (us.map rowD) = decide (ts = us)
  | [], [] => rfl
  | [], _ :: _ => rfl
  | _ :: _, [] => rfl
  | t :: ts, u :: us => by
    show (PyData.eqv (rowD t) (rowD u) && PyData.eqvAll (ts.map rowD) (us.map rowD)) = _
    rw [eqv_rows ts us]
    have e : PyData.eqv (rowD t) (rowD u) = decide (t = u) := by
      show ((t.1 == u.1) && ((t.2 == u.2) && true)) = _
      obtain ⟨a, b⟩ := t
      obtain ⟨c, d⟩ := u
      by_cases h1 : a = c
      · by_cases h2 : b = d
        · simp [h1, h2]
        · simp [h2]
      · simp [h1]
    rw [e]
    by_cases h1 : t = u
    · by_cases h2 : ts = us
      · simp [h1, h2]
      · simp [h2]
    · simp [h1]
theorem depth_rows : ∀ ts : Row, PyData.depthAll (ts.map rowD) ≤ 1
  | [] => Nat.zero_le _
  | t :: ts => by
    have ih := depth_rows ts
    show max (PyData.depth (rowD t)) (PyData.depthAll (ts.map rowD)) ≤ 1
    have : PyData.depth (rowD t) = 1 := rfl
    omega
theorem lay_rows : ∀ {ts : Row}, (∀ t ∈ ts, PyData.strOk t.1 = true) → PyData.canLayAll0 (ts.map rowD) = true
  | [], _ => rfl
  | t :: ts, h => by
    have ih := lay_rows fun y hy => h y (.tail _ hy)
    show (PyData.canLay0 (rowD t) && PyData.canLayAll0 (ts.map rowD)) = true
    rw [ih, Bool.and_true]
    show (PyData.strOk t.1 && (true && true)) = true
    rw [h t (.head _)]
    rfl
theorem shaped_rows {ts : Row} (h : ∀ t ∈ ts, PyData.strOk t.1 = true) : SeqAt.shaped (rowsD ts) = true := by
  have d := depth_rows ts
  show (PyData.canLayAll0 (ts.map rowD) && decide (PyData.depthAll (ts.map rowD) + 1 ≤ 64)) = true
  rw [lay_rows h, decide_eq_true (by omega)]
  rfl
/-- side == side -/
def spEq (C : Addr) : Sp := fun vs H Q _ => ∃ a b ts us, vs = [.ref a, .ref b] ∧ SideAt C H a ts ∧ SideAt C H b us ∧ (∀ t ∈ ts, PyData.strOk t.1 = true) ∧ (∀ t ∈ us, PyData.strOk t.1 = true) ∧ Q (.bl (decide (ts = us))) H
/-- side == any other kind of thing -/
def spNe (K : PySem.W.Frag) (C : Addr) : Sp := fun vs H Q _ => ∃ x y t, vs = [x, y] ∧ TyX K H y t ∧ PySem.W.kitOne K t (.ref C) = some false ∧ Q (.bl false) H
def spEqs (K : PySem.W.Frag) (C : Addr) : Sp := fun vs H Q E => spEq C vs H Q E ∨ spNe K C vs H Q E
theorem scEq : FnScope ["self", "other"] ["self", "other"] (defScope sEq) := ⟨rfl, rfl, rfl, by decide +kernel, rfl, by decide +kernel, by decide +kernel⟩
theorem scIter : FnScope ["self"] ["self"] (defScope sIter) := ⟨rfl, rfl, rfl, by decide +kernel, rfl, by decide +kernel, by decide +kernel⟩
/-- the class, asked of its own instances -/
structure SideI (K : PySem.W.Frag) (C : Addr) : Prop where
  ha : PySem.W.findIn K (.ref C) "__class__" = some (some (.builtin "object.__class__"))
  hn : PySem.W.specialIn K (.builtin "object.__class__") "__get__" = some (some (.builtin "getset_descriptor.__get__"))
  htk : PySem.W.takesIn K (.builtin "object.__class__") = some true
  hm : PySem.W.mroIn K C (.type "object") = some true
/-- iter(side) -/
def spIter (C : Addr) (n : Nat) : Sp := fun vs H Q _ => ∃ a ts, vs = [.ref a] ∧ SideAt C H a ts ∧ ∀ r rows it, H r = some (.tup rows) → All2 H (ts.map fun t => tupV [V.str t.1, .int t.2]) rows → H it = none → n ≤ it → Q (.ref it) (upd H it (Own.ItT r it))
section
variable {P : Program} {w : World} {K : PySem.W.Frag} {mg : Str → Option Value} {base : Heap} {C f : Addr} {fd : FuncData}
theorem ok_eq (F : Fun K "__eq__" "Side.__eq__" sEq f fd) (S : SideC K C) (SI : SideI K C) (T : Blt mg) (gS : mg "Side" = some (.ref C)) : FnOk P w K mg base CX0 1 f fd ["self", "other"] (spEqs K C) := by
  refine F.ok scEq (fun vs H Q E h => ?_) (fun cdv A outer s H vs Q E hr h => ?_)
  · rcases h with ⟨a, b, ts, us, rfl, _⟩ | ⟨x, y, t, rfl, _⟩ <;> rfl
  · refine ⟨_, pss_one (ps_ret (pe_and (pe_callB call_isi (by rfl) T.isi (by decide +kernel) (pa_cons (pv 1) (pa_cons (pe_glob (v := .ref C) (by rfl) gS rfl) pa_nil)))
      (pe_one (pe_cmpR (op_eqD hr.units) (pe_fld (pv 0) rfl) (pe_fld (pv 1) rfl) (nomark _))))), ?_⟩
    rcases h with ⟨a, b, ts, us, rfl, ⟨dx, n, d, r, rows, h1, h2, h3, h4, h5⟩, ⟨dx', n', d', r', rows', k1, k2, k3, k4, k5⟩, o1, o2, q⟩ | ⟨x, y, t, rfl, ty, kt, q⟩
    · refine ⟨_, rfl, _, _, _, _, true, rfl, .own C, .base (.ins k1 S.cl SI.ha SI.hn SI.htk SI.hm), ?_, _, rfl, ?_⟩
      · unfold PySem.W.kitOne
        rw [if_pos (by simp)]
      refine ⟨_, rfl, a, C, dx, _, _, rfl, h1, S.cl, S.nR, rfl, _, rfl, b, C, dx', _, _, rfl, k1, S.cl, S.nR, rfl, rowsD ts, rowsD us, .tup (SqT.of h4) (dp_rows h5), .tup (SqT.of k4) (dp_rows k5), shaped_rows o1, shaped_rows o2, ?_⟩
      rw [show PyData.eqv (rowsD ts) (rowsD us) = decide (ts = us) from eqv_rows ts us]
      exact q
    · exact ⟨_, rfl, _, _, _, _, false, rfl, .own C, ty, kt, _, rfl, q⟩
theorem ok_iter (F : Fun K "__iter__" "Side.__iter__" sIter f fd) (S : SideC K C) (hI : mg "iter" = none) : Own.FnZ P w K mg base 1 f ["self"] fd (spIter C) := by
  refine Own.Fun.okZ F scIter fun cdv A outer s H vs Q hr h => ?_
  obtain ⟨a, ts, rfl, ⟨dx, n, d, r, rows, h1, h2, h3, h4, h5⟩, q⟩ := h
  refine ⟨_, pss_one (ps_ret (pe_callB Own.call_iterT (by rfl) hI (by decide +kernel) (pa_cons (pe_fld (pv 0) rfl) pa_nil))), ?_⟩
  exact ⟨_, rfl, a, C, dx, _, _, rfl, h1, S.cl, S.nR, rfl, r, rows, rfl, SqT.of h4, fun it hit hn => q r rows it h4 h5 hit hn⟩
end
end Fk

set_option Elab.async false
set_option linter.all false
set_option maxRecDepth 100000
set_option maxHeartbeats 4000000
/-! What the law draws: one of some things, an amount. -/
namespace K19
open PySem PySem.Spec PyProof.Rows L2
def spPick : Sp := fun vs H Q _ => ∃ (p q : Addr) (ns : List Int) (s g : Int) (a : Addr) (xs : List V), vs = [.ref p, .ref a] ∧ Pen H p q ns s g ∧ ns.length ≤ 63 ∧ 0 ≤ s ∧ s < 100000 ∧ H a = some (.lst xs) ∧ a ≠ p ∧ 0 < xs.length ∧ xs.length < 100000 ∧
  ∀ (v : V) (s' g' : Int) (H' : Hp), v ∈ xs → s ≤ s' → s' ≤ s + 1 → Pen H' p q ns s' g' → But p H H' → Q v H'
theorem scPick : FnScope ["pen", "some"] ["pen", "some"] (defScope sPick) := ⟨rfl, rfl, rfl, by decide +kernel, rfl, by decide +kernel, by decide +kernel⟩
section
variable {P : Program} {w : World} {K : PySem.W.Frag} {mg : Str → Option Value} {base : Heap} {f fD fP : Addr} {fd fdD fdP : FuncData}
theorem ok_pick (F : Fun K "_law_pick" "_law_pick" sPick f fd) (T : Blt mg) (G : FnOk P w K mg base CX0 1 fD fdD ["pen", "many"] spDraw) (b : Binds K fdD ["pen", "many"] []) (gD : mg "_law_draw" = some (.ref fD)) (kD : PySem.W.keepIn K (.ref fD) = true) :
    FnOk P w K mg base CX0 2 f fd ["pen", "some"] spPick := by
  refine F.ok scPick (fun vs H Q E h => ?_) (fun cdv A outer s H vs Q E hr h => ?_)
  · obtain ⟨p, q, ns, s, g, a, xs, rfl, _⟩ := h
    rfl
  · obtain ⟨p, q, ns, s, g, a, xs, rfl, hP, hl, h0, h1, ha, nap, x0, x1, k⟩ := h
    refine ⟨_, pss_one (ps_ret (pe_ix ix_list (pv 1) (pe_call G hr (by rfl) gD kD b .nil pass0 (pa_cons (pv 0) (pa_cons (pe_callB call_len_seq (by rfl) T.len PySem.boot_len (pa_cons (pv 1) pa_nil)) pa_nil))) (fun _ _ => rfl))), ?_⟩
    refine ⟨_, rfl, _, rfl, _, rfl, a, xs, rfl, .inl (SqL.of ha), p, q, ns, s, g, _, rfl, hP, hl, h0, h1, by omega, by omega, fun n s' g' H' n0 n1 s0 s1 hP' hB => ?_⟩
    have hj : n.toNat < xs.length := by omega
    exact ⟨a, xs, n, xs[n.toNat], rfl, rfl, SqL.of (hB a _ ha nap), at_of (j := n.toNat) (by omega) (List.getElem?_eq_getElem hj), k _ s' g' H' (List.getElem_mem hj) s0 s1 hP' hB⟩
end
end K19

set_option Elab.async false
set_option linter.all false
set_option maxRecDepth 100000
set_option maxHeartbeats 4000000
namespace Cm
open PySem PySem.Spec PyProof.Rows L2 EvP
def lstA (Ps : List PR) : PR := ⟨fun v H => ∃ a ws, v = .ref a ∧ H a = some (.lst ws) ∧ All2 H Ps ws, fun _ _ _ e ⟨a, ws, h1, h2, h3⟩ => ⟨a, ws, h1, e _ _ h2, h3.ex e⟩⟩
section
variable {K : PySem.W.Frag} {σ : L2.St} {H : Hp} {tl te : TE} {vs : List Nat} {g : TG}
/-- [e for target in a new list], place by place -/
theorem compQ {Ps0 Ps : List PR} (h : EvP.Gives tl σ H (lstA Ps0)) (hz : Ps0.length ≤ 1000) (hl : Ps.length = Ps0.length)
    (step : ∀ (j : Nat) (x : V) (P0 P : PR) (H2 : Hp), Ex H H2 → Ps0[j]? = some P0 → Ps[j]? = some P → P0.R x H2 → ∃ σ2 : L2.St, wipe σ2 vs = wipe σ vs ∧ (∀ H1, Ex H2 H1 → ∀ Q : L2.St → Hp → Prop, Q σ2 H1 → g x (wipe σ vs) H1 Q) ∧ EvP.Gives te σ2 H2 P) (st : ∀ P ∈ Ps, Stays P) :
    EvP.Gives (tLc (iList K tl) g tYes te vs) σ H (lst H Ps) := fun H1 e1 Q q =>
  h H1 e1 _ fun v H2 e2 ⟨a, ws, ev, ha, hs⟩ => by
    have z : EvP.Gives (tLc (iList K (tC v)) g tYes te vs) σ H2 (lst H2 Ps) := compP (xs := ws) (walks_list (fun H3 e3 Q k => k v H3 (Ex.refl H3) ⟨a, ev, e3 _ _ ha⟩)) (by rw [hs.length]; exact hz) (by rw [hs.length]; exact hl) (fun j x P hx hP => by
      have hj : j < Ps0.length := by
        rw [← hl]
        exact (List.getElem?_eq_some_iff.mp hP).1
      obtain ⟨y, hy, hr⟩ := hs.get (i := j) (P := Ps0[j]) (List.getElem?_eq_getElem hj)
      have exy : x = y := Option.some.inj (hx.symm.trans hy)
      subst exy
      exact step j x _ P H2 (e1.trans e2) (List.getElem?_eq_getElem hj) hP hr) st
    exact z H2 (Ex.refl H2) Q fun u H3 e3 ⟨D, zs, eu, hD, nD, hz⟩ => q u H3 (e2.trans e3) ⟨D, zs, eu, hD, (e1.trans e2).back nD, hz⟩
end
end Cm

set_option autoImplicit true
namespace Cm
open PySem PySem.Spec PyProof.Rows L2 EvP
/-- if t: ..; both ways -/
theorem st_ifB {tt : TT} {t u : TS} {D : Ends} {σ : L2.St} {H : Hp} {b : Bool} (h : Tst tt σ H b) (kT : b = true → ∀ H1, Ex H H1 → t { D with nx := u D } σ H1) (kF : b = false → ∀ H1, Ex H H1 → u D σ H1) : tSeq (tIfS tt t tNext) u D σ H := h H (Ex.refl H) _ fun H1 e => by
  cases b with
  | true => exact kT rfl H1 e
  | false => exact kF rfl H1 e
end Cm

set_option Elab.async false
set_option linter.all false
set_option maxRecDepth 100000
set_option maxHeartbeats 4000000
/-! What is general of the fillings' texts: keys as data, words that are joined, slices. -/
namespace L2
open PySem PySem.Spec PyProof.Rows
/-- text times int -/
theorem op_mulS {X : Cx} : OpR X (binaryOp .Mult) (fun x y H Q => ∃ z n, x = .str z ∧ y = .int n ∧ MulOk z n ∧ Q (.str (Txt.mul z n)) H) := by
  intro pins s σ H x y v u Q I rx ry h
  obtain ⟨z, n, rfl, rfl, ok, q⟩ := h
  obtain ⟨t, rfl⟩ := rx
  obtain ⟨t', rfl⟩ := ry
  exact SB.mul ok fun t2 k => ⟨.str _, H, I.tok _, ⟨_, rfl⟩, q⟩
end L2
namespace Fi
open PySem PySem.NumText PySem.Spec PyProof.Rows L2 EvP Cm Fk DtE Tb XG Wd
open K19 (Pen But spPick spDraw)
open Dg hiding numT
theorem dp_key {K : PySem.W.Frag} {H : Hp} : ∀ k : List Key, DpAll K H (k.map kV) (k.map toD)
  | [] => .nil
  | .inl i :: k => .cons (.int i) (dp_key k)
  | .inr x :: k => .cons (.str x) (dp_key k)
def keyD (k : List Key) : PyData := .tuple (k.map toD)
theorem dp_keysL {K : PySem.W.Frag} {H : Hp} : ∀ {ks : List (List Key)} {vs : List V}, All2 H (ks.map isK) vs → DpAll K H vs (ks.map keyD)
  | [], _, .nil => .nil
  | k :: ks, _, .cons ⟨_, ev, ha⟩ r => by
    subst ev
    exact .cons (.tup (SqT.of ha) (dp_key k)) (dp_keysL r)
/-- a pair of names -/
def GoodP (k : List Key) : Prop := ∃ a x, k = key2 a x ∧ nameB a = true ∧ nameB x = true
theorem strOk_name {x : Str} (h : nameB x = true) : PyData.strOk x = true := by
  unfold nameB at h
  simp only [Bool.and_eq_true] at h
  have a := h.1.1.2
  unfold Txt.isascii at a
  unfold PyData.strOk
  rw [Array.all_eq_true] at a ⊢
  intro i hi
  have := of_decide_eq_true (a i hi)
  exact decide_eq_true (Nat.lt_trans this (by decide))
theorem GoodP.pairK {k : List Key} (h : GoodP k) : PairK k := by
  obtain ⟨a, x, e, ha, hx⟩ := h
  refine ⟨a, x, e, ⟨a, rfl, ?_, ha⟩, x, rfl, ?_, hx⟩
  · have := (name_small ha).1
    rw [sizeLine_eq]
    omega
  · have := (name_small hx).1
    rw [sizeLine_eq]
    omega
theorem depth_keysL : ∀ {ks : List (List Key)}, (∀ k ∈ ks, GoodP k) → PyData.depthAll (ks.map keyD) ≤ 1
  | [], _ => Nat.zero_le _
  | k :: ks, h => by
    have ih := depth_keysL fun y hy => h y (.tail _ hy)
    show max (PyData.depth (keyD k)) (PyData.depthAll (ks.map keyD)) ≤ 1
    obtain ⟨a, x, et, _⟩ := h k (.head _)
    have : PyData.depth (keyD k) = 1 := by
      subst et
      rfl
    omega
theorem lay_keysL : ∀ {ks : List (List Key)}, (∀ k ∈ ks, GoodP k) → PyData.canLayAll0 (ks.map keyD) = true
  | [], _ => rfl
  | k :: ks, h => by
    have ih := lay_keysL fun y hy => h y (.tail _ hy)
    show (PyData.canLay0 (keyD k) && PyData.canLayAll0 (ks.map keyD)) = true
    rw [ih, Bool.and_true]
    obtain ⟨a, x, et, oa, ox⟩ := h k (.head _)
    subst et
    show (PyData.strOk a && (PyData.strOk x && true)) = true
    rw [strOk_name oa, strOk_name ox]
    rfl
theorem shaped_keysL {ks : List (List Key)} (h : ∀ k ∈ ks, GoodP k) : SeqAt.shaped (.list (ks.map keyD)) = true := by
  have d := depth_keysL h
  show (PyData.canLayAll0 (ks.map keyD) && decide (PyData.depthAll (ks.map keyD) + 1 ≤ 64)) = true
  rw [lay_keysL h, decide_eq_true (by omega)]
  rfl
theorem eqv_keysL (ks : List (List Key)) : PyData.eqv (.list (ks.map keyD)) (.list []) = ks.isEmpty := by
  cases ks <;> rfl
theorem strs_ne {ss : List Str} {q : Addr} {s g : Int} : HO.lst (ss.map V.str) ≠ HO.lst [.ref q, .int s, .int g] := fun z => by
  cases ss with
  | nil => cases z
  | cons a r => cases (List.cons.inj (HO.lst.inj z)).1
theorem keys_but2 {H G : Hp} {p : Addr} {zs : List V} (hx : H p = some (.lst zs)) (k : But p H G) : ∀ {ks : List (List Key)} {vs : List V}, All2 H (ks.map isK) vs → All2 G (ks.map isK) vs
  | [], _, .nil => .nil
  | _ :: _, _, .cons ⟨b, ev, hb⟩ r => .cons ⟨b, ev, k _ _ hb (ne_of hb hx fun z => nomatch z)⟩ (keys_but2 hx k r)
theorem g_lits {σ : L2.St} {H : Hp} (ss : List Str) {ta : TA} (h : EvP.GivesA ta σ H ((ss.map V.str).map is)) (hz : ss.length ≤ 1000) : EvP.Gives (tLst ta) σ H (lstV (ss.map V.str)) :=
  Fk.Gives.imp (EvP.list (H0 := H) (Ps := (ss.map V.str).map is) (Ex.refl _) h (by rw [List.length_map, List.length_map]; exact hz)) fun v H h => Wd.lst_is h
theorem erase_perm {α : Type} : ∀ (l : List α) (i : Nat) (h : i < l.length), (l[i] :: l.eraseIdx i).Perm l
  | x :: r, 0, _ => List.Perm.refl _
  | x :: r, i + 1, h => (List.Perm.swap x _ _).trans (List.Perm.cons x (erase_perm r i (Nat.lt_of_succ_lt_succ h)))
theorem all2_erase {H : Hp} : ∀ {ks : List (List Key)} {vs : List V} (i : Nat), All2 H (ks.map isK) vs → All2 H ((ks.eraseIdx i).map isK) (vs.eraseIdx i)
  | [], _, _, .nil => .nil
  | _ :: _, _, 0, .cons _ r => r
  | _ :: _, _, i + 1, .cons a r => .cons a (all2_erase i r)
theorem tl_eq {a b : Str} (h : tl a = tl b) : a = b := by
  obtain ⟨⟨x⟩⟩ := a
  obtain ⟨⟨y⟩⟩ := b
  cases (show x = y from h)
  rfl
theorem name_ne {x : Str} (h : nameB x = true) : decide (tl ("" : Str) < tl x) = true := by
  refine decide_eq_true ?_
  show ([] : List Nat) < tl x
  cases e : tl x with
  | nil =>
    have : x = "" := tl_eq e
    rw [this] at h
    revert h
    decide +kernel
  | cons a l => exact List.Lex.nil
theorem tl_app (u v : Str) : tl (u ++ v) = tl u ++ tl v := by
  show (u.cps ++ v.cps).toList = _
  rw [Array.toList_append]
theorem name_low {x : Str} (h : nameB x = true) : ∀ c ∈ tl x, 97 ≤ c ∧ c ≤ 122 := by
  have h' := h
  unfold nameB at h'
  simp only [Bool.and_eq_true, decide_eq_true_eq, Bool.not_eq_true'] at h'
  have l8 : x.length ≤ 8 := name_len h
  have l1 : 1 ≤ x.length := by
    have := of_decide_eq_true (name_ne h)
    rw [← len_cps]
    cases e : x.cps.toList with
    | nil =>
      rw [show tl x = [] from e] at this
      exact absurd this (List.lt_irrefl _)
    | cons a l => simp
  have z := name_az x l1 l8 h'.1.1.1.2
  rw [h, List.all_eq_true] at z
  have k : ∀ c ∈ tl az, 97 ≤ c ∧ c ≤ 122 := by decide +kernel
  exact fun c hc => k c (of_decide_eq_true (z c hc))
/-- lengths of words, each with a blank -/
def tot (l : List Str) : Nat := (l.map fun x => x.length + 1).sum
theorem tot_app (a b : List Str) : tot (a ++ b) = tot a + tot b := by
  unfold tot
  rw [List.map_append, List.sum_append]
theorem join_len : ∀ l : List Str, l ≠ [] → (Txt.join sp l).length + 1 = tot l
  | [], h => absurd rfl h
  | [a], _ => rfl
  | a :: b :: r, _ => by
    have ih := join_len (b :: r) (by simp)
    rw [TL.join_eq] at ih ⊢
    show (a ++ sp ++ Str.join sp (b :: r)).length + 1 = (a.length + 1) + tot (b :: r)
    rw [Str.length_append, Str.length_append, ← ih]
    show a.length + 1 + _ + 1 = _
    omega
theorem tot_take (l : List Str) (k : Nat) : tot (l.take k) + tot (l.drop k) = tot l := by
  rw [← tot_app, List.take_append_drop]
theorem tot_ws (z : Str) : tot (ws z) = z.length + 1 := by
  rw [← join_len _ (ws_ne z), glue]
theorem sum_tot : ∀ l : List Str, (l.map (·.length)).sum + l.length = tot l
  | [] => rfl
  | a :: r => by
    have := sum_tot r
    unfold tot at this ⊢
    simp only [List.map_cons, List.sum_cons, List.length_cons]
    omega
/-- a line with at most n words, at most L signs -/
structure Bd (n L : Nat) (z : Str) : Prop where
  len : z.length ≤ L
  cnt : (ws z).length ≤ n
  asc : ∀ c ∈ tl z, c < 128
/-- how many words stand in these -/
def wsum (l : List Str) : Nat := (l.map fun p => (ws p).length).sum
theorem wsum_app (a b : List Str) : wsum (a ++ b) = wsum a + wsum b := by
  unfold wsum
  rw [List.map_append, List.sum_append]
theorem wsum_one : ∀ {l : List Str}, (∀ p ∈ l, 32 ∉ tl p) → wsum l = l.length
  | [], _ => rfl
  | a :: r, h => by
    have ih := wsum_one fun p hp => h p (.tail _ hp)
    have h1 : (ws a).length = 1 := by
      rw [ws_len, List.count_eq_zero_of_not_mem (h a (.head _))]
    unfold wsum at ih ⊢
    rw [List.map_cons, List.sum_cons, ih, h1, List.length_cons]
    omega
theorem ws_join : ∀ l : List Str, l ≠ [] → (ws (Txt.join sp l)).length = wsum l
  | [], h => absurd rfl h
  | [a], _ => by
    rw [TL.join_eq]
    show (ws a).length = (ws a).length + 0
    omega
  | a :: b :: r, _ => by
    have ih := ws_join (b :: r) (by simp)
    rw [TL.join_eq, ws_len] at ih
    rw [TL.join_eq, ws_len]
    show (tl (a ++ sp ++ Str.join sp (b :: r))).count 32 + 1 = (ws a).length + wsum (b :: r)
    rw [tl_app, tl_app, List.count_append, List.count_append, ← ih, ws_len]
    show _ + 1 + _ + 1 = _
    omega
theorem join_asc {l : List Str} (h : ∀ p ∈ l, ∀ c ∈ tl p, c < 128) : ∀ c ∈ tl (Txt.join sp l), c < 128 := by
  rw [TL.join_eq]
  induction l with
  | nil => intro c hc; exact absurd hc (by show ¬ c ∈ ([] : List Nat); simp)
  | cons a r ih =>
    cases r with
    | nil => exact h a (.head _)
    | cons b r =>
      intro c hc
      have hc : c ∈ (a ++ sp ++ Str.join sp (b :: r)).cps.toList := hc
      rw [app_cps, app_cps] at hc
      rcases List.mem_append.mp hc with hc | hc
      · rcases List.mem_append.mp hc with hc | hc
        · exact h a (.head _) c hc
        · have : c ∈ [32] := hc
          rw [List.mem_singleton] at this
          omega
      · exact ih (fun p hp => h p (.tail _ hp)) c hc
/-- words that are joined -/
theorem Bd.join {n L : Nat} {l : List Str} (hn : 1 ≤ n) (h1 : wsum l ≤ n) (h2 : tot l ≤ L) (h4 : ∀ p ∈ l, ∀ c ∈ tl p, c < 128) : Bd n L (Txt.join sp l) := by
  by_cases e : l = []
  · subst e
    refine ⟨Nat.zero_le _, ?_, join_asc h4⟩
    rw [ws_len]
    show 0 + 1 ≤ n
    omega
  · refine ⟨?_, ?_, join_asc h4⟩
    · have := join_len l e
      omega
    · rw [ws_join l e]
      exact h1
theorem cutV_mid (xs : List V) (j k : Nat) : cutV xs (some (j : Int)) (some (k : Int)) = (xs.drop j).take (k - j) := by
  show (xs.drop (HT.sIx xs.length 0 (some (j : Int)))).take (HT.sIx xs.length xs.length (some (k : Int)) - HT.sIx xs.length 0 (some (j : Int))) = _
  rw [HT.sIx_nat, HT.sIx_nat]
  by_cases c : j ≤ xs.length
  · rw [Nat.min_eq_left c]
    by_cases c2 : k ≤ xs.length
    · rw [Nat.min_eq_left c2]
    · rw [Nat.min_eq_right (by omega), List.take_of_length_le (by rw [List.length_drop]; omega), List.take_of_length_le (by rw [List.length_drop]; omega)]
  · rw [Nat.min_eq_right (show xs.length ≤ j by omega), List.drop_length, List.drop_eq_nil_of_le (by omega), List.take_nil, List.take_nil]
theorem cutV_pre (xs : List V) (k : Nat) : cutV xs none (some (k : Int)) = xs.take k := by
  show (xs.drop 0).take (HT.sIx xs.length xs.length (some (k : Int)) - 0) = _
  rw [HT.sIx_nat, List.drop_zero, Nat.sub_zero]
  by_cases c : k ≤ xs.length
  · rw [Nat.min_eq_left c]
  · rw [Nat.min_eq_right (by omega), List.take_of_length_le (Nat.le_refl _), List.take_of_length_le (by omega)]
theorem cutV_suf (xs : List V) (k : Nat) : cutV xs (some (k : Int)) none = xs.drop k := by
  show (xs.drop (HT.sIx xs.length 0 (some (k : Int)))).take (xs.length - HT.sIx xs.length 0 (some (k : Int))) = _
  rw [HT.sIx_nat, List.take_of_length_le (by rw [List.length_drop]; omega)]
  by_cases c : k ≤ xs.length
  · rw [Nat.min_eq_left c]
  · rw [Nat.min_eq_right (by omega), List.drop_length, List.drop_eq_nil_of_le (by omega)]
section
variable {K : PySem.W.Frag} {σ : L2.St} {H : Hp} {ta tb te : TE} {xs ys : List V}
theorem g_pre {k : Nat} (h : EvP.Gives ta σ H (lstV xs)) (i : EvP.Gives te σ H (is (.int (k : Nat)))) : EvP.Gives (tSl (rSlL K) ta tNoPart (tPart te)) σ H (lstV (xs.take k)) := fun H1 e Q q =>
  h H1 e _ fun v H2 e2 ⟨a, ev, ha⟩ => i H2 (e.trans e2) _ fun u H3 e3 eu => ⟨_, eu, a, xs, ev, SqL.of (e3 _ _ ha), fun p hp => q _ _ ((e2.trans e3).trans (Ex.new hp)) ⟨p, rfl, by rw [upd_same, cutV_pre xs k]⟩⟩
theorem g_suf {k : Nat} (h : EvP.Gives ta σ H (lstV xs)) (i : EvP.Gives te σ H (is (.int (k : Nat)))) : EvP.Gives (tSl (rSlL K) ta (tPart te) tNoPart) σ H (lstV (xs.drop k)) := fun H1 e Q q =>
  h H1 e _ fun v H2 e2 ⟨a, ev, ha⟩ => i H2 (e.trans e2) _ fun u H3 e3 eu => ⟨_, eu, a, xs, ev, SqL.of (e3 _ _ ha), fun p hp => q _ _ ((e2.trans e3).trans (Ex.new hp)) ⟨p, rfl, by rw [upd_same, cutV_suf xs k]⟩⟩
theorem g_mid {j k : Nat} (h : EvP.Gives ta σ H (lstV xs)) (i : EvP.Gives tb σ H (is (.int (j : Nat)))) (i2 : EvP.Gives te σ H (is (.int (k : Nat)))) : EvP.Gives (tSl (rSlL K) ta (tPart tb) (tPart te)) σ H (lstV ((xs.drop j).take (k - j))) := fun H1 e Q q =>
  h H1 e _ fun v H2 e2 ⟨a, ev, ha⟩ => i H2 (e.trans e2) _ fun u H3 e3 eu => ⟨_, eu, i2 H3 ((e.trans e2).trans e3) _ fun u2 H4 e4 eu2 => ⟨_, eu2, a, xs, ev, SqL.of (e4 _ _ (e3 _ _ ha)), fun p hp => q _ _ (((e2.trans e3).trans e4).trans (Ex.new hp)) ⟨p, rfl, by rw [upd_same, cutV_mid xs j k]⟩⟩⟩
theorem g_catV (h : EvP.Gives ta σ H (lstV xs)) (k : EvP.Gives tb σ H (lstV ys)) (hz : xs.length + ys.length ≤ sizeLine) : EvP.Gives (tOp rCat ta tb) σ H (lstV (xs ++ ys)) :=
  g_op h k fun x y H1 e ⟨a, ex, ha⟩ ⟨b, ey, hb⟩ Q q => ⟨a, b, xs, ys, ex, ey, ha, hb, hz, fun p hp => q _ _ (Ex.new hp) ⟨p, rfl, upd_same⟩⟩
theorem g_up {i : Nat} {m : Nat} (h : σ[i]? = some (some (.int (m : Nat)))) : EvP.Gives (tOp (rI0 fun i j => .int (i + j)) (tVar i) (tC (.int 1))) σ H (is (.int ((m + 1 : Nat) : Int))) := fun H1 e Q q => ⟨_, h, _, _, rfl, rfl, q _ _ (Ex.refl _) rfl⟩
end
end Fi

set_option Elab.async false
set_option linter.all false
set_option maxRecDepth 100000
set_option maxHeartbeats 4000000
/-! is_row of a list or a tuple. -/
namespace Tb
open PySem PySem.Spec PyProof.Rows L2 EvP Cm Fk DtE KyS XG
abbrev sRow : Stmt := top 21
theorem scRow : FnScope ["value"] ["value"] (defScope sRow) := ⟨rfl, rfl, rfl, by decide +kernel, rfl, by decide +kernel, by decide +kernel⟩
def spRow (K : PySem.W.Frag) : Sp := fun vs H Q _ => ∃ (a : Addr) (xs : List V), vs = [.ref a] ∧ SqA K H a xs ∧ ∀ H', (∀ b o, H b = some o → H' b = some o) → Q (.bl true) H'
section
variable {P : Program} {w : World} {K : PySem.W.Frag} {mg : Str → Option Value} {base : Heap} {f : Addr} {fd : FuncData}
theorem ok_row (F : Fun K "is_row" "is_row" sRow f fd) (T : Blt mg) (R : BltR mg) : FnOk P w K mg base CX0 1 f fd ["value"] (spRow K) := by
  refine F.ok scRow (fun vs H Q E h => ?_) (fun cdv A outer s H vs Q E hr h => ?_)
  · obtain ⟨a, xs, rfl, _⟩ := h
    rfl
  · obtain ⟨a, xs, rfl, h, q⟩ := h
    refine ⟨_, pss_one (ps_ret (pe_callB call_isiT (by rfl) T.isi (by decide +kernel) (pa_cons (pv 0) (pa_cons (pe_tup (pa_cons (pe_bltn (v := .ty "list") (by rfl) R.list (by decide +kernel) rfl) (pa_cons (pe_bltn (v := .ty "tuple") (by rfl) R.tuple (by decide +kernel) rfl) pa_nil))) pa_nil)))), ?_⟩
    refine ⟨_, rfl, by show 2 ≤ sizeLine; decide, fun tp hp => ?_⟩
    have e := Ex.new (H := H) (o := .tup [.ty "list", .ty "tuple"]) hp
    refine ⟨.ref a, tp, [.ty "list", .ty "tuple"], ?_⟩
    rcases SqA.keep e h with h | h
    · exact ⟨.type "list", [.type "list", .type "tuple"], true, rfl, upd_same, .cons (.ty _) (.cons (.ty _) .nil), SqL.typ h, kitAny_cons (b := true) (kit_ty (by decide +kernel)) (fun z => nomatch z) (fun _ => rfl), q _ e⟩
    · exact ⟨.type "tuple", [.type "list", .type "tuple"], true, rfl, upd_same, .cons (.ty _) (.cons (.ty _) .nil), SqT.typ h, kitAny_cons (b := false) (r := true) (kit_ty (by decide +kernel)) (fun _ => kitAny_cons (b := true) (kit_ty (by decide +kernel)) (fun z => nomatch z) (fun _ => rfl)) (fun z => nomatch z), q _ e⟩
end
end Tb

set_option Elab.async false
set_option linter.all false
set_option maxRecDepth 100000
set_option maxHeartbeats 4000000
/-! Sets whose elements are objects of a kind: the search. The table's own laws are the library's. -/
namespace KSet
open PySem PySem.Spec PyProof.Rows L2
variable {P : Program} {w : World} {κ : Type} [DecidableEq κ]
/-- what a set asks of its elements beside hash and == -/
structure Calm (knd : HeapKind P w κ) : Prop where
  flat : ∀ {A : Around} {E : Value → Shared → Prop} {s : Shared} {k : κ} {b : Addr} {Q : Bool → Shared → Prop}, knd.is s.heap k b → Q false s → wpAny (model P w) A (ofAClassStatement 8 (.ref b)) Q E s
  byVal : ∀ {A : Around} {E : Value → Shared → Prop} {s : Shared} {k : κ} {b : Addr} {Q : Bool → Shared → Prop}, knd.is s.heap k b → (∀ z, Q z s) → wpAny (model P w) A (hashByValue 8 (.ref b)) Q E s
  far : ∀ {h g : Heap} {k : κ} {b d : Addr} {ob : Obj} {rows : Array (Int × Value)} {age : Nat} {tb : SetTable}, knd.is h k b → h.get? d = some ob → ob.data = .set rows age tb → Heap.SameBut d h g → knd.is g k b
  more : ∀ {h g : Heap} {k : κ} {b : Addr}, knd.is h k b → (∀ c ob, h.get? c = some ob → g.get? c = some ob) → knd.is g k b
/-- at d lies a set of just these elements, each once, in the table's order -/
structure Bag (knd : HeapKind P w κ) (h : Heap) (d : Addr) (xs : List (κ × Addr)) (rows : Array (Int × Value)) (age : Nat) (tb : SetTable) : Prop where
  obj : ∃ ob, h.get? d = some ob ∧ ob.ExactSet ∧ ob.data = .set rows age tb
  ent : rows.toList = xs.map fun x => (knd.hash x.1, Value.ref x.2)
  tab : TabOk tb (xs.map fun x => knd.hash x.1)
  once : (xs.map Prod.fst).Nodup
  mem : ∀ x ∈ xs, knd.is h x.1 x.2
  ld : w.params.followText "set-order" = true ∨ tb.led = true
  low : 5 * xs.length < 3 * tb.mask
  few : xs.length < 64
section
variable {knd : HeapKind P w κ} {A : Around} {E : Value → Shared → Prop} {s : Shared} {h : Heap} {d : Addr} {xs : List (κ × Addr)} {rows : Array (Int × Value)} {age : Nat} {tb : SetTable}
theorem Bag.count (B : Bag knd h d xs rows age tb) : rows.size = xs.length := by
  rw [← Array.length_toList, B.ent, List.length_map]
theorem Bag.places (B : Bag knd h d xs rows age tb) : tb.place.size = xs.length := by
  rw [B.tab.sz, List.length_map]
theorem Bag.fits (B : Bag knd h d xs rows age tb) : tb.fits rows.size = true := by
  have a := B.places
  have b := B.count
  have c := B.low
  simp only [SetTable.fits, SetTable.fill, B.tab.dm]
  refine Bool.and_eq_true_iff.mpr ⟨beq_iff_eq.mpr (by omega), decide_eq_true ?_⟩
  show tb.place.size + 0 ≤ tb.mask
  omega
theorem Bag.row (B : Bag knd h d xs rows age tb) {i : Nat} {x : κ × Addr} (e : xs[i]? = some x) : rows[i]? = some (knd.hash x.1, Value.ref x.2) := by
  rw [← Array.getElem?_toList, B.ent, List.getElem?_map, e]
  rfl
theorem Bag.hashAt (B : Bag knd h d xs rows age tb) {i : Nat} {x : κ × Addr} (e : xs[i]? = some x) : (rows[i]?.map Prod.fst).getD 0 = knd.hash x.1 := by
  rw [B.row e]
  rfl
/-- the places that a search for hash n goes through -/
abbrev trail (tb : SetTable) (n : Int) (c : Nat) : SetTable.Probe := nth tb.mask (tb.probeStart n) c
theorem trail_add (tb : SetTable) (n : Int) (a b : Nat) : nth tb.mask (trail tb n a) b = trail tb n (a + b) := (nth_add tb.mask a _ b).symm
theorem trail_way (tb : SetTable) (n : Int) (c : Nat) : (trail tb n c).j = way tb.mask n c := rfl
theorem trail_clean (tb : SetTable) (n : Int) : ∀ c, (trail tb n c).dummy = none
  | 0 => rfl
  | c + 1 => by
    have ih := trail_clean tb n c
    show (nth tb.mask (tb.probeStart n) (c + 1)).dummy = none
    rw [nth_succ]
    unfold adv
    split <;> exact ih
/-- among elements of a kind nobody sees the search -/
theorem unseen (C : Calm knd) {k : κ} {b : Addr} {Q : Bool → Shared → Prop} (kb : knd.is s.heap k b) (q : Q false s) : ∀ ys : List Value, (∀ y ∈ ys, ∃ k2 c, y = Value.ref c ∧ knd.is s.heap k2 c) → wpAny (model P w) A (searchCouldBeSeen (.ref b) ys) Q E s := fun ys all => by
  unfold searchCouldBeSeen
  refine wpAny_bind (wpAny_forIn_list _ (fun left acc s2 => acc.1 = none ∧ s2 = s ∧ ∀ y ∈ left, ∃ k2 c, y = Value.ref c ∧ knd.is s.heap k2 c) _ ?turn ?stop _ _ ⟨rfl, rfl, all⟩)
  case turn =>
    rintro y left acc s2 ⟨_, rfl, these⟩
    obtain ⟨k2, c, rfl, kc⟩ := these y List.mem_cons_self
    have others : ∀ z ∈ left, ∃ k2 c, z = Value.ref c ∧ knd.is s2.heap k2 c := fun z hz => these z (List.mem_cons_of_mem _ hz)
    dsimp only
    by_cases same : (b == c || (carriedByValue (.ref b) && carriedByValue (.ref c))) = true
    · exact wp_if_pos same (wpAny_pure ⟨rfl, rfl, others⟩)
    · refine wp_if_neg same (wpAny_bind (knd.quiet kb ?_))
      simp only [Bool.not_true, Bool.false_eq_true, if_false]
      refine wpAny_bind (knd.quiet kc ?_)
      simp only [Bool.not_true, Bool.false_eq_true, if_false]
      refine wpAny_bind (C.flat kb ?_)
      simp only [Bool.false_eq_true, if_false]
      refine wpAny_bind (C.flat kc ?_)
      simp only [Bool.false_eq_true, if_false]
      exact wpAny_pure ⟨rfl, rfl, others⟩
  case stop =>
    rintro ⟨acc, u⟩ s2 ⟨e, rfl, _⟩
    dsimp only at e
    subst e
    exact wpAny_pure q
end
end KSet

set_option Elab.async false
set_option linter.all false
set_option maxRecDepth 100000
set_option maxHeartbeats 4000000
/-! Sets of objects of a kind: what a search finds. -/
namespace KSet
open PySem PySem.Spec PyProof.Rows L2
variable {P : Program} {w : World} {κ : Type} [DecidableEq κ] {knd : HeapKind P w κ} {A : Around} {E : Value → Shared → Prop} {s : Shared} {d : Addr} {xs : List (κ × Addr)} {rows : Array (Int × Value)} {age : Nat} {tb : SetTable}
theorem steady (tb : SetTable) : tb.sameMemory tb.moves tb.mask = some true := by
  unfold SetTable.sameMemory
  exact if_pos (beq_iff_eq.mpr rfl)
theorem Bag.grown (B : Bag knd s.heap d xs rows age tb) : ¬ tb.gaveWay = true := by
  have odd := mask_odd B.tab.mok
  unfold SetTable.gaveWay
  rw [odd]
  exact by decide
/-- from the c-th place on: it is there, or the first free place is told -/
theorem look_from (B : Bag knd s.heap d xs rows age tb) (C : Calm knd) (rm : knd.room A) {x : Addr} {k : κ} (kx : knd.is s.heap k x) {top : Nat} (bound : top < 10 * SetTable.turns tb.mask) (free : way tb.mask (knd.hash k) top ∉ tb.place.toList)
    (full : ∀ c, c < top → way tb.mask (knd.hash k) c ∈ tb.place.toList) {Q : SetFound → Shared → Prop} (old : k ∈ xs.map Prod.fst → Q (.there none) s) (new : k ∉ xs.map Prod.fst → Q (.free (way tb.mask (knd.hash k) top) false) s) :
    ∀ (fuel c : Nat) (at_ : Option SetTable.Probe), at_.getD (tb.probeStart (knd.hash k)) = trail tb (knd.hash k) c → c ≤ top → top < fuel + c →
      (∀ (i : Nat) (y : κ × Addr), xs[i]? = some y → y.1 = k → ∃ c2, c ≤ c2 ∧ c2 < top ∧ tb.place.toList[i]? = some (way tb.mask (knd.hash k) c2)) → wpAny (model P w) A (setSearchFrom d (.ref x) (knd.hash k) true fuel at_) Q E s
  | 0, c, at_, _, le, lt, _ => by omega
  | fuel + 1, c, at_, begun, le, lt, ahead => by
    have B0 := B
    obtain ⟨⟨ob, o1, o2, o3⟩, _, tab, _, _, _, _, _⟩ := B0
    rw [setSearchFrom_succ]
    refine wpAny_bind (wpAny_setState_of o1 o3 B.fits ?_)
    dsimp only
    refine wp_if_neg B.grown (wpAny_bind (wpAny_pure ?_))
    have told := go_spec tb tab.ris tab.dm (fun i => (rows[i]?.map (·.1)).getD 0) (knd.hash k) (10 * SetTable.turns tb.mask) (top - c) (trail tb (knd.hash k) c) (trail_clean tb _ c) (by omega)
      (fun q lq => by rw [trail_add]; exact full (c + q) (by omega)) (by rw [trail_add, show c + (top - c) = top by omega]; exact free)
    rcases told with ⟨q, i, lq, pi, hi, none_ahead, answer⟩ | ⟨nowhere, answer⟩
    · rw [trail_add] at pi
      rw [trail_add, trail_add] at answer
      have probe : tb.probe (fun i => (rows[i]?.map (·.1)).getD 0) (knd.hash k) (at_.getD (tb.probeStart (knd.hash k))) = some (.candidate (way tb.mask (knd.hash k) (c + q)) i (trail tb (knd.hash k) (c + (q + 1)))) := by
        rw [begun]
        exact answer
      rw [probe]
      dsimp only
      have il : i < xs.length := by
        have a := (List.getElem?_eq_some_iff.mp pi).1
        rw [Array.length_toList, B.places] at a
        exact a
      have gi : xs[i]? = some xs[i] := List.getElem?_eq_getElem il
      have mi : xs[i] ∈ xs := List.getElem_mem il
      have live : tb.slot (way tb.mask (knd.hash k) (c + q)) = .live i := slot_live tab.ris pi
      have further : wpAny (model P w) A (searchRest d (.ref x) (knd.hash k) true fuel rows tb (way tb.mask (knd.hash k) (c + q)) i (trail tb (knd.hash k) (c + (q + 1)))) Q E s := by
        unfold searchRest
        rw [B.row gi]
        dsimp only
        refine wpAny_bind (wpAny_holding (knd.eqBool rm (B.mem _ mi) kx (wpAny_bind (wpAny_setState_of o1 o3 B.fits ?_))))
        dsimp only
        by_cases same : xs[i].1 = k
        · refine wp_if_pos (by rw [same]; simp) (wpAny_pure (old ?_))
          exact List.mem_map.mpr ⟨_, mi, same⟩
        · refine wp_if_neg (by simp [same]) (wpAny_bind (wpAny_pure ?_))
          rw [steady]
          dsimp only
          simp only [if_true, live, B.row gi]
          refine wpAny_bind (wpAny_isSame_ref_self (wpAny_bind (wpAny_pure ?_))); simp only [if_true]
          refine wp_if_neg (by simp [same]) (look_from B C rm kx bound free full old new fuel (c + (q + 1)) (some _) rfl (by omega) (by omega) fun j y gj ky => ?_)
          obtain ⟨c2, a1, a2, a3⟩ := ahead j y gj ky
          refine ⟨c2, ?_, a2, a3⟩
          rcases Nat.lt_trichotomy c2 (c + q) with z | z | z
          · refine absurd (show (rows[j]?.map (·.1)).getD 0 = knd.hash k from ?_) (none_ahead (c2 - c) j (by omega) (by rw [trail_add, show c + (c2 - c) = c2 by omega]; exact a3))
            rw [← ky]
            exact B.hashAt gj
          · rw [z, ← Option.some.injEq] at a3
            have two := slot_live tab.ris (Option.some.inj a3 : tb.place.toList[j]? = _)
            rw [live] at two
            injection two with two
            rw [← two, gi] at gj
            exact absurd (by rw [Option.some.inj gj]; exact ky) same
          · omega
      by_cases led : tb.led = true
      · exact wp_if_neg (by rw [led]; decide) (wpAny_bind (wpAny_pure further))
      · refine wp_if_pos (by simpa using led) (wpAny_bind (unseen C kx ?_ _ fun y hy => ?_))
        · exact wp_if_neg Bool.false_ne_true (wpAny_bind (wpAny_pure further))
        · obtain ⟨e, he, rfl⟩ := List.mem_map.mp hy
          have h1 : e ∈ rows := (by simpa using he : e ∈ rows ∧ _).1
          have h2 : e ∈ rows.toList := Array.mem_toList_iff.mpr h1
          rw [B.ent] at h2
          obtain ⟨y2, m2, rfl⟩ := List.mem_map.mp h2
          exact ⟨y2.1, y2.2, rfl, B.mem _ m2⟩
    · rw [trail_add, show c + (top - c) = top by omega] at answer
      have probe : tb.probe (fun i => (rows[i]?.map (·.1)).getD 0) (knd.hash k) (at_.getD (tb.probeStart (knd.hash k))) = some (.empty (way tb.mask (knd.hash k) top) none) := by
        rw [begun]
        exact answer
      rw [probe]
      dsimp only
      refine wpAny_pure (new fun mk => ?_)
      obtain ⟨y, my, ky⟩ := List.mem_map.mp mk
      obtain ⟨j, lj, ej⟩ := List.getElem_of_mem my
      have gj : xs[j]? = some y := by rw [List.getElem?_eq_getElem lj, ej]
      obtain ⟨c2, a1, a2, a3⟩ := ahead j y gj ky
      refine nowhere (c2 - c) j (by omega) (by rw [trail_add, show c + (c2 - c) = c2 by omega]; exact a3) ?_
      rw [← ky]
      exact B.hashAt gj
end KSet

set_option Elab.async false
set_option linter.all false
set_option maxRecDepth 100000
set_option maxHeartbeats 4000000
/-! Sets of objects of a kind: the table is laid anew, an element is added. -/
namespace KSet
open PySem PySem.Spec PyProof.Rows L2
variable {P : Program} {w : World} {κ : Type} [DecidableEq κ] {knd : HeapKind P w κ} {A : Around} {E : Value → Shared → Prop} {s : Shared} {d : Addr} {xs : List (κ × Addr)} {rows : Array (Int × Value)} {age : Nat} {tb : SetTable}
theorem range_pick {α : Type} : ∀ l : List α, (List.range l.length).filterMap (fun i => l[i]?) = l
  | [] => rfl
  | a :: r => by
    have ih := range_pick r
    rw [List.length_cons, List.range_succ_eq_map, List.filterMap_cons, List.filterMap_map]
    exact congrArg (List.cons a) ih
abbrev rowOf (knd : HeapKind P w κ) (x : κ × Addr) : Int × Value := (knd.hash x.1, Value.ref x.2)
theorem rows_at (ent : rows.toList = xs.map (rowOf knd)) (i : Nat) : rows[i]? = xs[i]?.map (rowOf knd) := by
  rw [← Array.getElem?_toList, ent, List.getElem?_map]
/-- the rows, picked by places, are the rows of the elements picked so -/
theorem picked (ent : rows.toList = xs.map (rowOf knd)) {order : Array Nat} (po : order.toList.Perm (List.range xs.length)) :
    ∃ ys : List (κ × Addr), (order.filterMap (rows[·]?)).toList = ys.map (rowOf knd) ∧ ys.Perm xs ∧ (order.toList.map fun i => (rows.map (·.1)).getD i 0) = ys.map fun y => knd.hash y.1 := by
  refine ⟨order.toList.filterMap fun i => xs[i]?, ?_, ?_, ?_⟩
  · rw [Array.toList_filterMap, List.map_filterMap]
    exact congrArg (fun f => List.filterMap f order.toList) (funext fun i => rows_at ent i)
  · have h := po.filterMap fun i => xs[i]?
    rw [range_pick] at h
    exact h
  · have small : ∀ i ∈ order.toList, i < xs.length := fun i hi => List.mem_range.mp (po.mem_iff.mp hi)
    have go : ∀ l : List Nat, (∀ i ∈ l, i < xs.length) → (l.map fun i => (rows.map (·.1)).getD i 0) = (l.filterMap fun i => xs[i]?).map fun y => knd.hash y.1 := fun l => by
      induction l with
      | nil => exact fun _ => rfl
      | cons i r ih =>
        intro all
        have il := all i (.head _)
        have gi : xs[i]? = some xs[i] := List.getElem?_eq_getElem il
        rw [List.map_cons, List.filterMap_cons, gi, List.map_cons, ih fun j hj => all j (.tail _ hj)]
        congr 1
        have gr := rows_at ent i
        rw [gi] at gr
        have gm : (rows.map (·.1))[i]? = some (knd.hash xs[i].1) := by
          rw [Array.getElem?_map, gr]
          rfl
        rw [Array.getD_eq_getD_getElem?, gm]
        rfl
    exact go _ small
/-- the table, laid anew and larger -/
theorem relay {ob : Obj} (C : Calm knd) (o1 : s.heap.get? d = some ob) (o2 : ob.ExactSet) (o3 : ob.data = .set rows age tb) (ent : rows.toList = xs.map (rowOf knd)) (pz : tb.place.size = xs.length) (dm : tb.dummies = #[]) (fit : xs.length ≤ tb.mask)
    (once : (xs.map Prod.fst).Nodup) (mem : ∀ x ∈ xs, knd.is s.heap x.1 x.2) (ld : w.params.followText "set-order" = true ∨ tb.led = true) (few : xs.length < 64) {want M : Nat} (hw : SetTable.sizeAbove want - 1 = M) (hM : MaskOk M)
    (small : SetTable.sizeAbove want ≤ 128) (low : 5 * xs.length < 3 * M) {Q : Unit → Shared → Prop}
    (q : ∀ g ys rows2 age2 tb2, Heap.SameBut d s.heap g → Bag knd g d ys rows2 age2 tb2 → ys.Perm xs → Q () { s with heap := g }) : wpAny (model P w) A (setRelay d want) Q E s := by
  have count : rows.size = xs.length := by rw [← Array.length_toList, ent, List.length_map]
  have fits : tb.fits rows.size = true := by
    simp only [SetTable.fits, SetTable.fill, dm]
    refine Bool.and_eq_true_iff.mpr ⟨beq_iff_eq.mpr (by omega), decide_eq_true ?_⟩
    show tb.place.size + 0 ≤ tb.mask
    omega
  have cm : (rows.map (·.1)).size = xs.length := by rw [Array.size_map, count]
  obtain ⟨tb2, order, laid, po, T, m2, l2, _, _⟩ := relaid_ok tb (hs := rows.map (·.1)) (wanted := want) hw hM (by rw [cm]; omega)
  rw [cm] at po
  obtain ⟨ys, e1, e2, e3⟩ := picked ent po
  rw [e3] at T
  have c2 : (order.filterMap (rows[·]?)).size = xs.length := by rw [← Array.length_toList, e1, List.length_map, e2.length_eq]
  rw [setRelay_eq]
  refine wpAny_bind (wpAny_setState_of o1 o3 fits ?_)
  dsimp only
  refine wp_if_neg (show ¬ _ by rw [sizeLine_eq]; omega) ?_
  rw [laid]
  dsimp only
  refine wpAny_bind (wp_if_neg (by rw [c2, count]; simp) (wpAny_pure ?_))
  dsimp only
  have sb : Heap.SameBut d s.heap (s.heap.update d (Obj.putSet (order.filterMap (rows[·]?)) tb2)) := Heap.SameBut.update ..
  refine wpAny_storeSet_of o1 o3 (q _ ys _ (age + 1) tb2 sb ⟨⟨_, store_at o1 o3, ⟨o2.1, o2.2.1, o2.2.2⟩, rfl⟩, e1, T, (e2.map Prod.fst).nodup_iff.mpr once, fun x hx => C.far (mem x (e2.mem_iff.mp hx)) o1 o3 sb, by rw [l2]; exact ld, ?_, by rw [e2.length_eq]; exact few⟩ e2) (by rw [c2, sizeLine_eq]; omega)
  rw [e2.length_eq, m2]
  exact low
end KSet

set_option Elab.async false
set_option linter.all false
set_option maxRecDepth 100000
set_option maxHeartbeats 4000000
/-! Sets of objects of a kind: an element is added. -/
namespace KSet
open PySem PySem.Spec PyProof.Rows L2
variable {P : Program} {w : World} {κ : Type} [DecidableEq κ] {knd : HeapKind P w κ} {A : Around} {E : Value → Shared → Prop} {s : Shared} {d : Addr} {xs : List (κ × Addr)} {rows : Array (Int × Value)} {age : Nat} {tb : SetTable}
theorem turns_small {m : Nat} (ok : MaskOk m) : 10 * SetTable.turns m < 100000 := by
  unfold SetTable.turns
  rcases ok with e | e | e <;> omega
/-- what the search tells -/
theorem look (B : Bag knd s.heap d xs rows age tb) (C : Calm knd) (rm : knd.room A) {x : Addr} {k : κ} (kx : knd.is s.heap k x) {Q : SetFound → Shared → Prop} (old : k ∈ xs.map Prod.fst → Q (.there none) s)
    (new : ∀ top, k ∉ xs.map Prod.fst → way tb.mask (knd.hash k) top ∉ tb.place.toList → (∀ c, c < top → way tb.mask (knd.hash k) c ∈ tb.place.toList) → Q (.free (way tb.mask (knd.hash k) top) false) s) :
    wpAny (model P w) A (setSearch d (.ref x) (knd.hash k) true) Q E s := by
  have low := B.low
  obtain ⟨top, bound, free, full⟩ := B.tab.first (by rw [List.length_map]; omega) (knd.hash k)
  have ts := turns_small B.tab.mok
  unfold setSearch
  refine look_from B C rm kx bound free full old (fun nk => new top nk free full) 100000 0 none rfl (Nat.zero_le _) (by omega) fun i y gi ky => ?_
  have hi : (xs.map fun x => knd.hash x.1)[i]? = some (knd.hash k) := by
    rw [List.getElem?_map, gi, ← ky]
    rfl
  have li : i < tb.place.toList.length := by
    have a := (List.getElem?_eq_some_iff.mp gi).1
    rw [Array.length_toList, B.places]
    exact a
  obtain ⟨c, lc, ec⟩ := B.tab.before free hi (List.getElem?_eq_getElem li)
  exact ⟨c, Nat.zero_le _, lc, by rw [ec]; exact List.getElem?_eq_getElem li⟩
theorem cut_in {α : Type} (l : List α) (p : Nat) (x : α) : (l.take p ++ x :: l.drop p).Perm (x :: l) := by
  have a : (l.take p ++ x :: l.drop p).Perm (x :: (l.take p ++ l.drop p)) := List.perm_middle
  exact a.trans (by rw [List.take_append_drop])
/-- an element is added, or is there -/
theorem add (B : Bag knd s.heap d xs rows age tb) (C : Calm knd) (rm : knd.room A) {x : Addr} {k : κ} (kx : knd.is s.heap k x) (few1 : xs.length + 1 < 64) {Q : Bool → Shared → Prop}
    (q : ∀ b g ys rows2 age2 tb2, Heap.SameBut d s.heap g → Bag knd g d ys rows2 age2 tb2 → (k ∈ xs.map Prod.fst → ys = xs) → (k ∉ xs.map Prod.fst → ys.Perm ((k, x) :: xs)) → Q b { s with heap := g }) :
    wpAny (model P w) A (setAddHashed d (.ref x) (knd.hash k)) Q E s := by
  have B0 := B
  obtain ⟨⟨ob, o1, o2, o3⟩, ent, tab, once, mem, ld, low, few⟩ := B0
  unfold setAddHashed
  refine wpAny_holding ?_
  show wpAny (model P w) A (setAddHashedIn d (.ref x) (knd.hash k) (99999 + 1)) _ _ _
  rw [setAddHashedIn_succ]
  refine wpAny_bind (wpAny_setState_of o1 o3 B.fits ?_)
  dsimp only
  refine wp_if_neg (show ¬ _ by simp [byScan, Value.scannable]) ?_
  refine wpAny_bind (look B C rm kx (fun there => ?_) fun top nk free full => ?_)
  · dsimp only
    exact wpAny_pure (q false s.heap xs rows age tb (Heap.SameBut.refl d s.heap) B (fun _ => rfl) fun z => absurd there z)
  · dsimp only
    refine wpAny_bind (wpAny_setState_of o1 o3 B.fits ?_)
    dsimp only
    obtain ⟨b1, b2, b3, b4, b5, b6, b7, b8, b9⟩ := tab.put free full
    have held : (SetTable.insertAt rows (SetTable.below tb.place (way tb.mask (knd.hash k) top)) (knd.hash k, Value.ref x)).toList = (xs.take (SetTable.below tb.place (way tb.mask (knd.hash k) top)) ++ (k, x) :: xs.drop (SetTable.below tb.place (way tb.mask (knd.hash k) top))).map (rowOf knd) := by
      rw [SetTable.toList_insertAt, ent, List.map_append, List.map_cons, List.map_take, List.map_drop]
    generalize tb.put (way tb.mask (knd.hash k) top) = laid at b1 b3 b4 b5 b6 b7 b8 b9 ⊢
    obtain ⟨t1, at1⟩ := laid
    dsimp only at b1 b3 b4 b5 b6 b7 b8 b9 ⊢
    subst b1
    generalize SetTable.below tb.place (way tb.mask (knd.hash k) top) = spot at b3 held ⊢
    have pm := cut_in xs spot (k, x)
    have tab1 : TabOk t1 ((xs.take spot ++ (k, x) :: xs.drop spot).map fun y => knd.hash y.1) := by
      simpa only [List.map_append, List.map_cons, List.map_take, List.map_drop] using b3
    generalize xs.take spot ++ (k, x) :: xs.drop spot = ys at pm held tab1
    generalize SetTable.insertAt rows spot (knd.hash k, Value.ref x) = rows1 at held ⊢
    have len1 : ys.length = xs.length + 1 := pm.length_eq
    have count1 : rows1.size = xs.length + 1 := by rw [← Array.length_toList, held, List.length_map, len1]
    have once1 : (ys.map Prod.fst).Nodup := by
      refine (pm.map Prod.fst).nodup_iff.mpr ?_
      exact List.nodup_cons.mpr ⟨nk, once⟩
    rw [List.length_map] at b9
    -- the new row is kept, and the table laid anew where it is too full
    have kept : ∀ t2 : SetTable, TabOk t2 (ys.map fun y => knd.hash y.1) → t2.mask = tb.mask → t2.led = tb.led → t2.fill = xs.length + 1 →
        wpAny (model P w) A (storeSet d rows1 t2 >>= fun _ => if (!false && t2.tooFull) = true then (setRelay d (SetTable.grown (rows.size + 1)) >>= fun _ => pure true) else pure true) Q E s := fun t2 tab2 b4 b5 fill2 => by
      have place2 : t2.place.size = xs.length + 1 := by rw [tab2.sz, List.length_map, len1]
      have sb : Heap.SameBut d s.heap (s.heap.update d (Obj.putSet rows1 t2)) := Heap.SameBut.update ..
      have p1 := store_at (es' := rows1) (t' := t2) o1 o3
      have mem1 : ∀ y ∈ ys, knd.is (s.heap.update d (Obj.putSet rows1 t2)) y.1 y.2 := fun y hy => by
        rcases List.mem_cons.mp (pm.mem_iff.mp hy) with e | hy
        · rw [e]
          exact C.far kx o1 o3 sb
        · exact C.far (mem y hy) o1 o3 sb
      refine wpAny_bind (wpAny_storeSet_of o1 o3 ?_ (by rw [count1, sizeLine_eq]; omega))
      generalize s.heap.update d (Obj.putSet rows1 t2) = g1 at sb p1 mem1 ⊢
      have ld2 : w.params.followText "set-order" = true ∨ t2.led = true := by
        rw [b5]
        exact ld
      cases full2 : t2.tooFull with
      | false =>
        refine wp_if_neg Bool.false_ne_true (wpAny_pure (q true g1 ys rows1 (age + 1) t2 sb ⟨⟨_, p1, ⟨o2.1, o2.2.1, o2.2.2⟩, rfl⟩, held, tab2, once1, mem1, ld2, ?_, by omega⟩ (fun z => absurd z nk) fun _ => pm))
        unfold SetTable.tooFull at full2
        rw [decide_eq_false_iff_not, fill2] at full2
        omega
      | true =>
        unfold SetTable.tooFull at full2
        rw [decide_eq_true_eq, fill2] at full2
        have two : (tb.mask = 7 ∧ xs.length = 4) ∨ (tb.mask = 31 ∧ xs.length = 18) := by
          rcases tab.mok with e | e | e
          · exact .inl ⟨e, by omega⟩
          · exact .inr ⟨e, by omega⟩
          · omega
        rw [B.count]
        have anew : ∀ M, SetTable.sizeAbove (SetTable.grown (xs.length + 1)) - 1 = M → MaskOk M → SetTable.sizeAbove (SetTable.grown (xs.length + 1)) ≤ 128 → 5 * (xs.length + 1) < 3 * M →
            wpAny (model P w) A (setRelay d (SetTable.grown (xs.length + 1))) (fun _ s2 => wpAny (model P w) A (pure true) Q E s2) E { s with heap := g1 } := fun M a1 a2 a3 a4 =>
          relay (s := { s with heap := g1 }) C p1 ⟨o2.1, o2.2.1, o2.2.2⟩ rfl held (by rw [place2, len1]) tab2.dm (by rw [len1, b4]; rcases two with ⟨e1, e2⟩ | ⟨e1, e2⟩ <;> omega) once1 mem1 ld2 (by omega) a1 a2 a3 (by rw [len1]; exact a4)
            fun g2 zs rows2 age2 tb2 sb2 B2 pz => wpAny_pure (q true g2 zs rows2 age2 tb2 (sb.trans sb2) B2 (fun z => absurd z nk) fun _ => pz.trans pm)
        refine wp_if_pos rfl (wpAny_bind ?_)
        rcases two with ⟨_, e⟩ | ⟨_, e⟩
        · exact anew 31 (by rw [e, size_20]) (.inr (.inl rfl)) (by rw [e, size_20]; decide) (by omega)
        · exact anew 127 (by rw [e, size_76]) (.inr (.inr rfl)) (by rw [e, size_76]; decide) (by omega)
    have off : TabOk { t1 with plain := false } (ys.map fun y => knd.hash y.1) := ⟨tab1.ris, tab1.dm, tab1.sz, tab1.mok, tab1.bd, tab1.reach⟩
    by_cases pl : t1.plain = true
    · refine wp_if_pos pl (wpAny_bind (C.byVal kx fun z => ?_))
      cases z with
      | true => exact kept t1 tab1 b4 b5 b9
      | false => exact kept { t1 with plain := false } off b4 b5 b9
    · exact wp_if_neg pl (wpAny_bind (wpAny_pure (kept t1 tab1 b4 b5 b9)))
end KSet

set_option Elab.async false
set_option linter.all false
set_option maxRecDepth 100000
set_option maxHeartbeats 4000000
/-! Sets of objects of a kind: filled from a walk. -/
namespace KSet
open PySem PySem.Spec PyProof.Rows L2
variable {P : Program} {w : World} {κ : Type} [DecidableEq κ] {knd : HeapKind P w κ}
/-- what is in the set behind i items -/
structure Met (ks : List (κ × Addr)) (i : Nat) (xs : List (κ × Addr)) : Prop where
  own : ∀ x ∈ xs, x ∈ ks
  same : ∀ k, k ∈ xs.map Prod.fst ↔ k ∈ (ks.take i).map Prod.fst
  le : xs.length ≤ i
  all : xs.length = i ↔ ((ks.take i).map Prod.fst).Nodup
theorem Met.none_ (ks : List (κ × Addr)) : Met ks 0 [] := ⟨fun x hx => (nomatch hx), fun k => by rw [List.take_zero], Nat.le_refl _, by rw [List.take_zero]; exact ⟨fun _ => List.nodup_nil, fun _ => rfl⟩⟩
theorem take_one {α : Type} {l : List α} {i : Nat} {x : α} (e : l[i]? = some x) : l.take (i + 1) = l.take i ++ [x] := by
  rw [List.take_add_one, e]
  rfl
theorem nodup_snoc {l : List κ} {k : κ} : (l ++ [k]).Nodup ↔ l.Nodup ∧ k ∉ l := by
  rw [List.nodup_append]
  refine ⟨fun ⟨a, _, b⟩ => ⟨a, fun m => b k m k (List.mem_singleton.mpr rfl) rfl⟩, fun ⟨a, b⟩ => ⟨a, List.nodup_cons.mpr ⟨List.not_mem_nil, List.nodup_nil⟩, fun y hy z hz e => ?_⟩⟩
  rw [List.mem_singleton] at hz
  rw [e, hz] at hy
  exact b hy
theorem Met.next {ks xs ys : List (κ × Addr)} {i : Nat} {x : κ × Addr} (m : Met ks i xs) (e : ks[i]? = some x) (old : x.1 ∈ xs.map Prod.fst → ys = xs) (new : x.1 ∉ xs.map Prod.fst → ys.Perm (x :: xs)) : Met ks (i + 1) ys := by
  have tk : (ks.take (i + 1)).map Prod.fst = (ks.take i).map Prod.fst ++ [x.1] := by rw [take_one e, List.map_append]; rfl
  by_cases c : x.1 ∈ xs.map Prod.fst
  · rw [old c]
    refine ⟨m.own, fun k => ?_, Nat.le_succ_of_le m.le, ?_⟩
    · rw [tk, List.mem_append, m.same, List.mem_singleton]
      exact ⟨.inl, fun z => z.elim id fun z => by rw [z]; exact (m.same _).mp c⟩
    · rw [tk, nodup_snoc]
      refine ⟨fun z => ?_, fun z => absurd ((m.same _).mp c) z.2⟩
      have := m.le
      omega
  · have p := new c
    have l := p.length_eq
    rw [List.length_cons] at l
    refine ⟨fun y hy => ?_, fun k => ?_, by have := m.le; omega, ?_⟩
    · rcases List.mem_cons.mp (p.mem_iff.mp hy) with z | z
      · rw [z]
        exact List.mem_of_getElem? e
      · exact m.own y z
    · rw [tk, List.mem_append, (p.map Prod.fst).mem_iff, List.map_cons, List.mem_cons, m.same, List.mem_singleton]
      exact or_comm
    · rw [tk, nodup_snoc, ← m.all]
      refine ⟨fun z => ⟨by omega, fun y => c ((m.same _).mpr y)⟩, fun z => by have := z.1; omega⟩
section
variable {A : Around} {E : Value → Shared → Prop} {s : Shared}
theorem Bag.keep {C : Calm knd} {h g : Heap} {d : Addr} {xs : List (κ × Addr)} {rows : Array (Int × Value)} {age : Nat} {tb : SetTable} (B : Bag knd h d xs rows age tb) (a : ∀ ob, h.get? d = some ob → g.get? d = some ob) (b : ∀ x ∈ xs, knd.is g x.1 x.2) : Bag knd g d xs rows age tb := by
  obtain ⟨⟨ob, o1, o2⟩, b2, b3, b4, b5, b6, b7, b8⟩ := B
  exact ⟨⟨ob, a ob o1, o2⟩, b2, b3, b4, b, b6, b7, b8⟩
/-- a new set -/
theorem Bag.fresh {h : Heap} {d : Addr} (e : h.get? d = some { cls := .type "set", dict := none, data := .set #[] 0 (.fresh 0 0 (!w.params.followText "set-order")) }) : Bag knd h d [] #[] 0 (.fresh 0 0 (!w.params.followText "set-order")) :=
  ⟨⟨_, e, ⟨rfl, rfl, rfl⟩, rfl⟩, rfl, ⟨List.Pairwise.nil, rfl, rfl, .inl rfl, (fun x hx => by cases hx), (fun i n j z => by cases z)⟩, List.nodup_nil, (fun x hx => by cases hx), by
    cases e : w.params.followText "set-order" with
    | true => exact .inl rfl
    | false => exact .inr (rfl), by show 5 * 0 < 3 * 7; decide, by show 0 < 64; decide⟩
/-- the loop that fills a set -/
theorem fill (C : Calm knd) {I : Addr} {fp wr : List Addr} {G : Array GenState → Array GenState → Prop} {n : Nat} {Pv : Nat → Value → Prop} {St : Nat → Shared → Prop} {R : Result → Shared → Prop} (W : WalksS P w A.in1 I fp wr G n Pv St)
    (d : Addr) (df : d ∉ fp) (ks : List (κ × Addr)) (kn : n = ks.length) (few : ks.length < 64) (vals : ∀ i v, Pv i v → ∃ x, ks[i]? = some x ∧ v = .ref x.2) (g0 : Heap) (m0 : ∀ x ∈ ks, knd.is g0 x.1 x.2) (d0 : g0.get? d = none) (w0 : ∀ b ∈ wr, g0.get? b = none) (rm : knd.room A.in1) :
    ∀ (left i : Nat) (s : Shared), i + left = n → St i s → (∀ b ob, g0.get? b = some ob → s.heap.get? b = some ob) → (∃ xs rows age tb, Bag knd s.heap d xs rows age tb ∧ Met ks i xs) →
      (∀ s2 xs rows age tb, Moved (d :: wr) G s s2 → Bag knd s2.heap d xs rows age tb → Met ks n xs → (∀ b ob, g0.get? b = some ob → s2.heap.get? b = some ob) → R (.ok (.ret .none)) s2) →
      codeAny (model P w) A (.builtin "set.update.loop" ⟨[.ref d, .ref I], []⟩) R s := by
  have dw : d ∉ wr := fun z => df (W.sub _ z)
  have wide : ∀ b ∈ wr, b ∈ d :: wr := fun b hb => List.mem_cons_of_mem _ hb
  have still : ∀ {s s2 : Shared}, Moved wr G s s2 → (∀ b ob, g0.get? b = some ob → s.heap.get? b = some ob) → ∀ b ob, g0.get? b = some ob → s2.heap.get? b = some ob := fun mv kp b ob e =>
    mv.heap b ob (fun hb => by rw [w0 b hb] at e; cases e) (kp b ob e)
  intro left
  induction left with
  | zero =>
    intro i s il st kp ⟨xs, rows, age, tb, B, met⟩ fin
    obtain rfl : i = n := il
    refine codeAny_builtin F.entry_set_update_loop ?_; rw [Around.under_plainId F.plain_set_update_loop _]; show wpAny _ A.in1 (pyNext (.ref I) >>= _) _ _ s
    refine wpAny_bind (W.done s _ _ st fun s2 mv => ?_)
    show wpAny _ A.in1 (ret Value.none) _ _ s2
    have kp2 := still mv kp
    exact wpAny_pure (fin s2 xs rows age tb (mv.mono wide) (Bag.keep (C := C) B (fun ob e => mv.heap d ob dw e) fun x hx => C.more (m0 x (met.own x hx)) kp2) met kp2)
  | succ left ih =>
    intro i s il st kp ⟨xs, rows, age, tb, B, met⟩ fin
    refine codeAny_builtin F.entry_set_update_loop ?_; rw [Around.under_plainId F.plain_set_update_loop _]; show wpAny _ A.in1 (pyNext (.ref I) >>= _) _ _ s
    refine wpAny_bind (W.item i s _ _ (by omega) st fun v s2 pv st2 mv => ?_)
    obtain ⟨x, gx, rfl⟩ := vals i v pv
    have kp2 := still mv kp
    have B2 : Bag knd s2.heap d xs rows age tb := Bag.keep (C := C) B (fun ob e => mv.heap d ob dw e) fun y hy => C.more (m0 y (met.own y hy)) kp2
    have kx : knd.is s2.heap x.1 x.2 := C.more (m0 x (List.mem_of_getElem? gx)) kp2
    show wpAny _ A.in1 (holding [Value.ref x.2] (setAdd d (.ref x.2)) >>= _) _ _ s2
    refine wpAny_bind (wpAny_holding ?_); unfold setAdd
    refine wpAny_holding (wpAny_bind (knd.pyHash rm kx ?_))
    refine add (s := { s2 with toks := s2.toks + knd.draws x.1 }) B2 C rm kx (by have := met.le; omega) fun b g ys rows2 age2 tb2 sb B3 old new => ?_
    have met2 := met.next gx old new
    have kp3 : ∀ b ob, g0.get? b = some ob → g.get? b = some ob := fun b ob e => (sb.2 b (fun z => by rw [z, d0] at e; cases e)).trans (kp2 b ob e)
    refine wpAny_pure ⟨plainId_quiet F.plain_set_update_loop _, ih (i + 1) _ (by omega) (W.frame _ s2 _ _ st2 (Nat.le_add_right _ _) fun b hb ob e => ?_) kp3 ⟨ys, rows2, age2, tb2, B3, met2⟩ fun s4 zs rows4 age4 tb4 mv4 B4 met4 kp4 => ?_⟩
    · rw [sb.2 b (fun z : b = d => df (by rw [← z]; exact hb))]
      exact e
    · refine fin s4 zs rows4 age4 tb4 (Moved.trans W.gtrans ((mv.mono wide).then_heap (Nat.le_add_right _ _) fun b ob nb e => ?_) mv4) B4 met4 kp4
      rw [sb.2 b (fun z : b = d => nb (by rw [z]; exact List.mem_cons_self))]
      exact e
end
end KSet

set_option Elab.async false
set_option linter.all false
set_option maxRecDepth 100000
set_option maxHeartbeats 4000000
/-! Sets of tuples of texts and whole numbers: what they ask is so. -/
namespace KSet
open PySem PySem.Spec PyProof.Rows L2
variable {P : Program} {w : World}
/-- tuples of texts and numbers -/
abbrev pairKind (P : Program) (w : World) : HeapKind P w (List Key) := tupleKind (mixKind P w)
def Plainly (v : Value) : Prop := (∃ i t, v = .int i t) ∨ ∃ x t, v = .str x t
theorem plainly {k : List Key} {vs : List Value} (h : ItemsAre (mixKind P w) k vs) : ∀ v ∈ vs, Plainly v := by
  induction h with
  | nil => exact fun v hv => nomatch hv
  | cons one _ ih =>
    intro v hv
    rcases List.mem_cons.mp hv with rfl | hv
    · rcases keyIs_shape one with ⟨i, t, _, e⟩ | ⟨x, t, _, e⟩
      · exact .inl ⟨i, t, e⟩
      · exact .inr ⟨x, t, e⟩
    · exact ih v hv
theorem plain_class {v : Value} (h : Plainly v) (n : Nat) : ofAClassStatement n v = pure false := by
  rcases h with ⟨i, t, rfl⟩ | ⟨x, t, rfl⟩ <;> cases n <;> rfl
theorem plain_hash {v : Value} (h : Plainly v) (n : Nat) : ∃ z, hashByValue n v = pure z := by
  rcases h with ⟨i, t, rfl⟩ | ⟨x, t, rfl⟩
  · exact ⟨_, hashByValue_scannable n rfl⟩
  · exact ⟨_, hashByValue_scannable n rfl⟩
theorem pairs_calm : Calm (pairKind P w) where
  flat := fun {A E s k b Q} kb q => by
    have ty := kb.typeIs
    obtain ⟨ob, its, n, o1, _, o3, o4⟩ := kb
    unfold ofAClassStatement
    refine wpAny_bind (wpAny_typeOf ty ?_)
    dsimp only
    rw [show (("tuple" : String) == "tuple") = true by decide]
    refine wpAny_bind (wpAny_pure ?_)
    simp only [if_true, Bool.not_true, Bool.false_eq_true, if_false]
    refine wpAny_bind (wpAny_seqItems o1 o3 ?_)
    dsimp only
    refine wpAny_bind ?_
    rw [← Array.forIn_toList]
    refine wpAny_forIn_list _ (fun left acc s2 => acc.1 = none ∧ s2 = s ∧ ∀ v ∈ left, Plainly v) _ ?turn ?stop _ _ ⟨rfl, rfl, plainly o4⟩
    case turn =>
      rintro v left acc s2 ⟨_, rfl, these⟩
      rw [plain_class (these v List.mem_cons_self)]
      refine wpAny_bind (wpAny_pure ?_)
      simp only [Bool.false_eq_true, if_false]
      exact wpAny_pure ⟨rfl, rfl, fun u hu => these u (List.mem_cons_of_mem _ hu)⟩
    case stop =>
      rintro ⟨acc, u⟩ s2 ⟨e, rfl, _⟩
      dsimp only at e
      subst e
      exact wpAny_pure q
  byVal := fun {A E s k b Q} kb q => by
    have ty := kb.typeIs
    obtain ⟨ob, its, n, o1, _, o3, o4⟩ := kb
    unfold hashByValue
    refine wpAny_bind (wpAny_specialOf ty F.slot_tuple_hash.lookup ?_)
    show wpAny _ _ (seqItems? (.ref b) >>= _) _ _ _
    refine wpAny_bind (wpAny_seqItems o1 o3 ?_)
    refine wpAny_bind ?_
    show wpAny _ _ (forIn its _ _) _ _ _
    rw [← Array.forIn_toList]
    refine wpAny_forIn_list _ (fun left acc s2 => (acc.1 = none ∨ ∃ z, acc.1 = some z) ∧ s2 = s ∧ ∀ v ∈ left, Plainly v) _ ?turn ?stop _ _ ⟨.inl rfl, rfl, plainly o4⟩
    case turn =>
      rintro v left acc s2 ⟨_, rfl, these⟩
      obtain ⟨z, ez⟩ := plain_hash (these v List.mem_cons_self) 7
      rw [ez]
      refine wpAny_bind (wpAny_pure ?_)
      have others : ∀ u ∈ left, Plainly u := fun u hu => these u (List.mem_cons_of_mem _ hu)
      cases z with
      | true => exact wp_if_neg Bool.false_ne_true (wpAny_pure ⟨.inl rfl, rfl, others⟩)
      | false => exact wp_if_pos rfl (wpAny_pure (wpAny_pure (q false)))
    case stop =>
      rintro ⟨acc, u⟩ s2 ⟨e, rfl, _⟩
      dsimp only at e
      rcases e with e | ⟨z, e⟩
      · subst e
        exact wpAny_pure (q _)
      · subst e
        exact wpAny_pure (q _)
  far := fun {h g k b d ob rows age tb} kb o1 o2 sb => by
    obtain ⟨ot, its, n, t1, t2, t3, t4⟩ := kb
    have ne : b ≠ d := fun e => by
      rw [e, o1] at t1
      cases Option.some.inj t1
      rw [o2] at t3
      cases t3
    exact ⟨ot, its, n, (sb.2 b ne).trans t1, t2, t3, t4⟩
  more := fun {h g k b} kb keep => by
    obtain ⟨ot, its, n, t1, r⟩ := kb
    exact ⟨ot, its, n, keep b ot t1, r⟩
end KSet

set_option Elab.async false
set_option linter.all false
set_option maxRecDepth 100000
set_option maxHeartbeats 4000000
/-! set(l), l a list or a tuple of objects of a kind. -/
namespace KSet
open PySem PySem.Spec PyProof.Rows L2
variable {P : Program} {w : World} {κ : Type} [DecidableEq κ] {knd : HeapKind P w κ} {A : Around} {E : Value → Shared → Prop} {s : Shared}
abbrev blank (w : World) : Obj := { cls := .type "set", dict := none, data := .set #[] 0 (.fresh 0 0 (!w.params.followText "set-order")) }
theorem unborn {h : Heap} {b : Addr} (le : h.objs.size ≤ b) : h.get? b = none := by
  cases e : h.get? b with
  | none => rfl
  | some ob => exact absurd (Nat.lt_of_lt_of_le (Heap.lt_size e) le) (Nat.lt_irrefl _)
theorem item_of {ks : List (κ × Addr)} {its : Array Value} (e : its.toList = ks.map fun x => Value.ref x.2) (i : Nat) (v : Value) (hv : its[i]? = some v) : ∃ x, ks[i]? = some x ∧ v = .ref x.2 := by
  rw [← Array.getElem?_toList, e, List.getElem?_map] at hv
  obtain ⟨x, hx, rfl⟩ := Option.map_eq_some_iff.mp hv
  exact ⟨x, hx, rfl⟩

/-- set(l), l a list -/
theorem call_set_list (C : Calm knd) {l : Addr} {its : Array Value} (ks : List (κ × Addr)) {Q : Value → Shared → Prop} (calm : A.handled = none) (src : s.heap.IsList l its) (isk : its.toList = ks.map fun x => Value.ref x.2) (mem : ∀ x ∈ ks, knd.is s.heap x.1 x.2) (few : ks.length < 64) (rm : knd.room A.in1.in1.in1)
    (q : ∀ (g : Heap) (tk : Nat) xs rows age tb, Bag knd g s.heap.objs.size xs rows age tb → Met ks ks.length xs → (∀ b ob, s.heap.get? b = some ob → g.get? b = some ob) → Q (.ref s.heap.objs.size) { s with heap := g, toks := tk }) :
    wpAny (model P w) A (call (.type "set") [.ref l]) Q E s := by
  have many : its.size = ks.length := by rw [← Array.length_toList, isk, List.length_map]
  obtain ⟨top, tl, line⟩ := F.called_set.mro
  have made := F.called_set.made
  have subs := F.called_set.sub
  refine wpAny_call (codeAny_of_tree ?_)
  show wpAny _ _ (callAny (.type "set") _) _ _ _
  refine wpAny_pure ⟨Code.quiet_builtin _ (by decide +kernel), codeAny_builtin F.entry_type_call ?_⟩
  rw [Around.under_plain (weight_type_call_type "set" [.ref l] []) rfl]
  have f1 := F.called_set.notType
  have f2 := F.called_set.canCreate
  have f3 := F.typeCall_set_1 (.ref l)
  repeat (any_goals (first | assumption | wp_step))
  refine codeAny_mono (code_set_led1 (.ref l) (E := E) (Q₁ := fun v t => v = .ref s.heap.objs.size ∧ t = { s with heap := s.heap.push (blank w) }) ⟨rfl, rfl⟩) fun res t1 told => ?_
  cases res with
  | error e => exact told
  | ok fl =>
    cases fl with
    | ret v =>
      obtain ⟨rfl, rfl⟩ := told
      have lies : (s.heap.push (blank w)).get? s.heap.objs.size = some (blank w) := Heap.get?_push_size _ rfl
      have isSet : Shared.TypeIs { s with heap := s.heap.push (blank w) } (.ref s.heap.objs.size) "set" := ⟨_, lies, rfl⟩
      have g1 := F.called_set.init.lookup
      have g2 := F.called_set.init.bind (.ref s.heap.objs.size)
      repeat (any_goals (first | assumption | wp_step))
      refine codeAny_mono (codeAny_call_builtin (R := wants (fun v t => v = .none ∧ ∃ g tk xs rows age tb, t = { s with heap := g, toks := tk } ∧ Bag knd g s.heap.objs.size xs rows age tb ∧ Met ks ks.length xs ∧ (∀ b ob, s.heap.get? b = some ob → g.get? b = some ob)) E)
        F.called_set.init.plain F.entry_set_init (check_set_init_1 isSet ?_)) fun res2 t2 told2 => ?_
      · have src0 := src
        obtain ⟨ol, here, isl, nl, dl⟩ := src
        obtain ⟨oc, od, oo, os⟩ := ol
        simp only at isl dl
        subst isl dl
        have here1 : (s.heap.push (blank w)).get? l = some { cls := .type "list", dict := od, data := .seq its nl, slots := os } := Heap.get?_push_of_some _ here
        have k1 := F.sub_list_set
        have k2 := F.sub_list_frozenset
        have k3 : (Value.type "list" == Value.type "dict") = false := by decide
        have src1 : (s.heap.push (blank w)).IsList l its := ⟨_, here1, rfl, nl, rfl⟩
        unfold Builtin.«set.__init__» noKeywords Builtin.Frozenset.updateFrom
        generalize walkFrom : pyIter = PI
        wp_walk
        subst walkFrom
        refine wpAny_pyIter_list src1 (wpAny_bind (wpAny_runValue ?_))
        have lt : l < s.heap.objs.size := Heap.lt_size here
        have calm3 : A.in1.in1.in1.handled = none := by simp [calm]
        have sz1 : (s.heap.push (blank w)).objs.size = s.heap.objs.size + 1 := Heap.size_push ..
        have neI : l ≠ (s.heap.push (blank w)).objs.size := by rw [sz1]; exact Nat.ne_of_lt (Nat.lt_succ_of_lt lt)
        have far : s.heap.objs.size ∉ [(s.heap.push (blank w)).objs.size, l] := by
          rw [sz1]
          simp only [List.mem_cons, List.not_mem_nil, or_false, not_or]
          exact ⟨Nat.ne_of_lt (Nat.lt_succ_self _), Nat.ne_of_gt lt⟩
        refine fill C ((Walks.list calm3 _ l neI its).toS) s.heap.objs.size far ks many few (item_of isk) s.heap mem (unborn (Nat.le_refl _)) (fun b hb => unborn (by
            rw [List.mem_singleton.mp hb, sz1]
            exact Nat.le_succ _)) rm its.size 0 _ (by omega) ⟨⟨_, Heap.get?_push_size _ rfl, rfl, rfl⟩, src1.push _⟩ (fun b ob e => Heap.get?_push_of_some _ (Heap.get?_push_of_some _ e)) ⟨[], #[], 0, _, Bag.fresh (Heap.get?_push_of_some _ lies), Met.none_ ks⟩ fun t3 xs rows age tb mv B met kp => ?_
        obtain ⟨g, gens, drawn, tk, oss⟩ := t3
        have e1 : gens = s.gens := mv.gens
        have e2 : drawn = s.drawn := mv.drawn
        have e3 : oss = s.os := mv.os
        subst e1 e2 e3
        show wpAny _ _ _ _ _ _
        refine wpAny_pure ?_
        show wpAny _ _ (ret Value.none) _ _ _
        rw [many] at met
        exact wpAny_pure ⟨rfl, g, tk, xs, rows, age, tb, rfl, B, met, kp⟩
      · cases res2 with
        | error e => exact told2
        | ok fl2 =>
          cases fl2 with
          | ret v =>
            obtain ⟨rfl, g, tk, xs, rows, age, tb, rfl, B, met, kp⟩ := told2
            repeat (any_goals (first | assumption | wp_step))
            exact q g tk xs rows age tb B met kp
          | _ => exact told2.elim
    | _ => exact told.elim

/-- set(l), l a tuple -/
theorem call_set_tuple (C : Calm knd) {l : Addr} {its : Array Value} (ks : List (κ × Addr)) {Q : Value → Shared → Prop} (calm : A.handled = none) (src : s.heap.IsTuple l its) (isk : its.toList = ks.map fun x => Value.ref x.2) (mem : ∀ x ∈ ks, knd.is s.heap x.1 x.2) (few : ks.length < 64) (rm : knd.room A.in1.in1.in1)
    (q : ∀ (g : Heap) (tk : Nat) xs rows age tb, Bag knd g s.heap.objs.size xs rows age tb → Met ks ks.length xs → (∀ b ob, s.heap.get? b = some ob → g.get? b = some ob) → Q (.ref s.heap.objs.size) { s with heap := g, toks := tk }) :
    wpAny (model P w) A (call (.type "set") [.ref l]) Q E s := by
  have many : its.size = ks.length := by rw [← Array.length_toList, isk, List.length_map]
  obtain ⟨top, tl, line⟩ := F.called_set.mro
  have made := F.called_set.made
  have subs := F.called_set.sub
  refine wpAny_call (codeAny_of_tree ?_)
  show wpAny _ _ (callAny (.type "set") _) _ _ _
  refine wpAny_pure ⟨Code.quiet_builtin _ (by decide +kernel), codeAny_builtin F.entry_type_call ?_⟩
  rw [Around.under_plain (weight_type_call_type "set" [.ref l] []) rfl]
  have f1 := F.called_set.notType
  have f2 := F.called_set.canCreate
  have f3 := F.typeCall_set_1 (.ref l)
  repeat (any_goals (first | assumption | wp_step))
  refine codeAny_mono (code_set_led1 (.ref l) (E := E) (Q₁ := fun v t => v = .ref s.heap.objs.size ∧ t = { s with heap := s.heap.push (blank w) }) ⟨rfl, rfl⟩) fun res t1 told => ?_
  cases res with
  | error e => exact told
  | ok fl =>
    cases fl with
    | ret v =>
      obtain ⟨rfl, rfl⟩ := told
      have lies : (s.heap.push (blank w)).get? s.heap.objs.size = some (blank w) := Heap.get?_push_size _ rfl
      have isSet : Shared.TypeIs { s with heap := s.heap.push (blank w) } (.ref s.heap.objs.size) "set" := ⟨_, lies, rfl⟩
      have g1 := F.called_set.init.lookup
      have g2 := F.called_set.init.bind (.ref s.heap.objs.size)
      repeat (any_goals (first | assumption | wp_step))
      refine codeAny_mono (codeAny_call_builtin (R := wants (fun v t => v = .none ∧ ∃ g tk xs rows age tb, t = { s with heap := g, toks := tk } ∧ Bag knd g s.heap.objs.size xs rows age tb ∧ Met ks ks.length xs ∧ (∀ b ob, s.heap.get? b = some ob → g.get? b = some ob)) E)
        F.called_set.init.plain F.entry_set_init (check_set_init_1 isSet ?_)) fun res2 t2 told2 => ?_
      · have src0 := src
        obtain ⟨ol, here, isl, nl, dl⟩ := src
        obtain ⟨oc, od, oo, os⟩ := ol
        simp only at isl dl
        subst isl dl
        have here1 : (s.heap.push (blank w)).get? l = some { cls := .type "tuple", dict := od, data := .seq its nl, slots := os } := Heap.get?_push_of_some _ here
        have k1 := F.sub_tuple_set
        have k2 := F.sub_tuple_frozenset
        have k3 : (Value.type "tuple" == Value.type "dict") = false := by decide
        have src1 : (s.heap.push (blank w)).IsTuple l its := ⟨_, here1, rfl, nl, rfl⟩
        unfold Builtin.«set.__init__» noKeywords Builtin.Frozenset.updateFrom
        generalize walkFrom : pyIter = PI
        wp_walk
        subst walkFrom
        refine wpAny_pyIter_tuple src1 (wpAny_bind (wpAny_runValue ?_))
        have lt : l < s.heap.objs.size := Heap.lt_size here
        have calm3 : A.in1.in1.in1.handled = none := by simp [calm]
        have sz1 : (s.heap.push (blank w)).objs.size = s.heap.objs.size + 1 := Heap.size_push ..
        have neI : l ≠ (s.heap.push (blank w)).objs.size := by rw [sz1]; exact Nat.ne_of_lt (Nat.lt_succ_of_lt lt)
        have far : s.heap.objs.size ∉ [(s.heap.push (blank w)).objs.size, l] := by
          rw [sz1]
          simp only [List.mem_cons, List.not_mem_nil, or_false, not_or]
          exact ⟨Nat.ne_of_lt (Nat.lt_succ_self _), Nat.ne_of_gt lt⟩
        refine fill C ((Walks.tuple calm3 _ l neI its).toS) s.heap.objs.size far ks many few (item_of isk) s.heap mem (unborn (Nat.le_refl _)) (fun b hb => unborn (by
            rw [List.mem_singleton.mp hb, sz1]
            exact Nat.le_succ _)) rm its.size 0 _ (by omega) ⟨⟨_, Heap.get?_push_size _ rfl, rfl, rfl⟩, src1.push _⟩ (fun b ob e => Heap.get?_push_of_some _ (Heap.get?_push_of_some _ e)) ⟨[], #[], 0, _, Bag.fresh (Heap.get?_push_of_some _ lies), Met.none_ ks⟩ fun t3 xs rows age tb mv B met kp => ?_
        obtain ⟨g, gens, drawn, tk, oss⟩ := t3
        have e1 : gens = s.gens := mv.gens
        have e2 : drawn = s.drawn := mv.drawn
        have e3 : oss = s.os := mv.os
        subst e1 e2 e3
        show wpAny _ _ _ _ _ _
        refine wpAny_pure ?_
        show wpAny _ _ (ret Value.none) _ _ _
        rw [many] at met
        exact wpAny_pure ⟨rfl, g, tk, xs, rows, age, tb, rfl, B, met, kp⟩
      · cases res2 with
        | error e => exact told2
        | ok fl2 =>
          cases fl2 with
          | ret v =>
            obtain ⟨rfl, g, tk, xs, rows, age, tb, rfl, B, met, kp⟩ := told2
            repeat (any_goals (first | assumption | wp_step))
            exact q g tk xs rows age tb B met kp
          | _ => exact told2.elim
    | _ => exact told.elim
end KSet

set_option Elab.async false
set_option linter.all false
set_option maxRecDepth 100000
set_option maxHeartbeats 4000000
/-! len(set(l)), l a list or a tuple of tuples of texts and numbers. -/
namespace KSet
open PySem PySem.Spec PyProof.Rows L2
theorem vals_refs : ∀ {ks : List (List Key × Addr)} {us : List Value}, Vals (ks.map fun x => V.ref x.2) us → us = ks.map fun x => Value.ref x.2
  | [], _, .nil => rfl
  | x :: ks, _, .cons h t => by
    rw [List.map_cons, ← vals_refs t]
    congr 1
def tLenSetT (K : PySem.W.Frag) (ta : TE) : TE := fun σ H Q => ta σ H fun v H1 => ∃ (l : Addr) (ks : List (List Key × Addr)), v = .ref l ∧ (SqL K H1 l (ks.map fun x => V.ref x.2) ∨ SqT K H1 l (ks.map fun x => V.ref x.2)) ∧ (∀ x ∈ ks, H1 x.2 = some (.tup (x.1.map kV))) ∧ ks.length < 64 ∧
  ∀ m : Nat, m ≤ ks.length → (m = ks.length ↔ (ks.map Prod.fst).Nodup) → Q (.int m) H1
section
variable {X : Cx}
theorem pe_lenSetT {a : Expr} {ta : TE} {p p2 q pos : Pos} (calm : X.calm = true) (room : X.A.units + 3 < cLine) (g1 : Gl X "len") (m1 : X.mg "len" = none) (g2 : Gl X "set") (m2 : X.mg "set" = none) (ha : PE X a ta)
    (na : starEach [a] X.env = (false, eval a X.env) :: starEach [] X.env := by rfl) : PE X (.Call (.Name "len" p) [.Call (.Name "set" p2) [a] [] q] [] pos) (tLenSetT X.K ta) := by
  refine ⟨fun pins s σ H Q I h => Call_ (ld_blt I g1 m1 PySem.boot_len (PyProof.Rows.callWith_builtin1 (PyProof.Rows.args_cons (Call_ (ld_blt I g2 m2 PyProof.Rows.boot_set (PyProof.Rows.callWith_type1 (PyProof.Rows.args_cons (thn (ha.run pins s σ H _ I h) fun u s1 told => PyProof.Rows.args_nil ?_) na) na rfl))) rfl) rfl rfl))⟩
  obtain ⟨v, H1, I1, rv, l, ks, rfl, sq, tp, few, k⟩ := told
  cases rv
  have mem : ∀ x ∈ ks, (pairKind X.prog X.w).is s1.heap x.1 x.2 := fun x hx => key_of I1.hok (tp x hx)
  have fin : ∀ (g : Heap) (tk : Nat) (xs : List (List Key × Addr)) (rows : Array (Int × Value)) (age : Nat) (tb : SetTable), Bag (pairKind X.prog X.w) g s1.heap.objs.size xs rows age tb → Met ks ks.length xs → (∀ b ob, s1.heap.get? b = some ob → g.get? b = some ob) →
      wpAny (model X.prog X.w) X.A (call (.builtin "len") [.ref s1.heap.objs.size]) (EP X pins σ Q) X.xe { s1 with heap := g, toks := tk } := fun g tk xs rows age tb B met kp => by
    obtain ⟨ob, o1, o2, o3⟩ := B.obj
    have le := met.le
    have all := met.all
    rw [List.take_length] at all
    have I2 : Inv X pins σ H1 { s1 with heap := g, toks := tk } := I1.kept fun b o e => kp b o e
    exact call_len_set o1 o2 o3 B.fits (by rw [B.count]; omega) ⟨.int xs.length, H1, I2.tok _, ⟨_, by rw [B.count]⟩, k xs.length le all⟩
  rcases sq with sq | sq
  · obtain ⟨its, r, pl, _⟩ := I1.list sq
    have e := vals_refs r
    subst e
    exact call_set_list pairs_calm ks (I1.ok.hd calm) pl.isList (by simp) mem few room fun g tk xs rows age tb B met kp => PyProof.Rows.args_nil (fin g tk xs rows age tb B met kp)
  · obtain ⟨its, r, pl, _⟩ := I1.tuple sq
    have e := vals_refs r
    subst e
    exact call_set_tuple pairs_calm ks (I1.ok.hd calm) pl (by simp) mem few room fun g tk xs rows age tb B met kp => PyProof.Rows.args_nil (fin g tk xs rows age tb B met kp)
end
end KSet

set_option Elab.async false
set_option linter.all false
set_option maxRecDepth 100000
set_option maxHeartbeats 4000000
/-! A tuple that a def's star made, known to the object: it is read as any tuple, and its methods can be called. -/
namespace L2
open PySem PySem.Spec PyProof.Rows EvP Cm
/-- the tuple at p, its object known: without a dict -/
def Fz (H : Hp) (p : Addr) (xs : List V) : Prop := ∃ ob : Obj, ob.cls = .type "tuple" ∧ ob.dict = none ∧ H p = some (.frz ob (.tup xs))
section
variable {K : PySem.W.Frag} {H H' : Hp} {p : Addr} {xs : List V}
theorem Fz.sq (h : Fz H p xs) : SqT K H p xs := let ⟨ob, _, _, e⟩ := h; .inl (.inr ⟨ob, e⟩)
theorem Fz.ex (e : Ex H H') (h : Fz H p xs) : Fz H' p xs := let ⟨ob, a, b, q⟩ := h; ⟨ob, a, b, e _ _ q⟩
theorem Fz.ne {b : Addr} {o : HO} (h : Fz H p xs) (hb : H b = some o) (d : ∀ ob u, o ≠ .frz ob u) : p ≠ b := by
  obtain ⟨ob, _, _, q⟩ := h
  exact ne_of q hb fun z => d ob _ z.symm
theorem Fz.upd {b : Addr} {o : HO} (h : Fz H p xs) (n : p ≠ b) : Fz (L2.upd H b o) p xs := by
  obtain ⟨ob, a1, a2, q⟩ := h
  exact ⟨ob, a1, a2, by rw [upd_ne n]; exact q⟩
theorem Fz.some (h : Fz H p xs) : ∃ o, H p = some o := let ⟨_, _, _, q⟩ := h; ⟨_, q⟩
end
/-- such a tuple, as a property -/
def fzV (xs : List V) : PR := ⟨fun v H => ∃ a, v = .ref a ∧ Fz H a xs, fun _ _ _ e ⟨a, h1, h2⟩ => ⟨a, h1, h2.ex e⟩⟩
/-- o.m(..), o such a tuple -/
def tBMZ (r : V → List V → Hp → VK → Prop) (to : TE) (t : TA) : TE := fun σ H Q => to σ H fun x H1 => (∃ p xs, x = .ref p ∧ Fz H1 p xs) ∧ t σ H1 fun ys H2 => r x ys H2 Q
section
variable {X : Cx} {o e : Expr} {es : List Expr} {to : TE} {t : TA} {name : Str} {apos cpos : Pos} {id : String} {r : V → List V → Hp → VK → Prop}
theorem pe_bmZ (pa : PlainAttrs "tuple") (slot : Slot "tuple" name id) (hty : typeOf (.builtin id) = pure (.type "method_descriptor")) (hm : MtR X id r) (ho : PE X o to) (ha : PA X (e :: es) t)
    (hbase : attributeBase o name X.env (eval o X.env) = eval o X.env := by rfl)
    (hfew : ((backTo cpos (starEach (e :: es) X.env)).all (fun x => !x.1) && (backToKw cpos (keywordEach [] X.env)).all (fun x => x.1.isSome)
      && decide ((e :: es).length + ([] : List Keyword).length + (if ([] : List Keyword).isEmpty then 0 else 1) < 30)) = true := by rfl)
    (hline : (apos.endLine == cpos.line) = true := by rfl) (hs : starEach (e :: es) X.env = (false, eval e X.env) :: starEach es X.env := by rfl) (hplain : (backTo cpos (starEach es X.env)).any (·.1) = false := by rfl) :
    PE X (.Call (.Attribute o name apos) (e :: es) [] cpos) (tBMZ r to t) := by
  refine ⟨fun pins s σ H Q I h => ?_⟩
  refine wpAny_Call_method_late hbase hfew hline rfl (thn (ho.run pins s σ H _ I h) fun v s1 z => ?_)
  obtain ⟨x, H1, I1, r1, ⟨p, xs, ex, fz⟩, q1⟩ := z
  subst ex
  obtain rfl : v = Value.ref p := r1
  obtain ⟨ob, c1, c2, hq⟩ := fz
  obtain ⟨ho1, _⟩ := (show ObjOk X.prog X.w H1 s1.heap p (.frz ob (.tup xs)) from I1.hok p _ hq)
  refine ⟨"tuple", id, pa, slot, hty, ⟨ob, ho1, c1⟩, fun a ea => ?_, ?_⟩
  · cases ea
    exact ⟨ob, ho1, c2⟩
  have hA := ha.run cpos pins s1 σ H1 _ I1 q1
  rw [hs] at hA ⊢
  refine Calls.callWith_builtin (by show (false || (backTo cpos (starEach es X.env)).any (·.1)) = false; rw [hplain] <;> rfl) (Calls.evalArgs_plain ?_)
  exact thn hA fun us s2 w => by
    obtain ⟨vs, H2, I2, r2, q2⟩ := w
    exact hm pins s2 σ H2 (.ref p) vs (.ref p) us Q I2 rfl r2 q2
end
end L2
namespace Cm
open PySem PySem.Spec PyProof.Rows L2 EvP
theorem walks_fz {K : PySem.W.Frag} {tl : TE} {σ : L2.St} {H : Hp} {xs : List V} (h : EvP.Gives tl σ H (fzV xs)) : Walks (iTup K tl) σ H xs := fun H1 e R r =>
  h H1 e _ fun v H2 e2 ⟨a, ev, fz⟩ => ⟨a, ev, ⟨xs, fz.sq⟩, r _ H2 e2 ⟨fun H' => SqT K H' a xs, walk_tup, fun H' e3 => (fz.ex e3).sq⟩⟩
end Cm
namespace StX
open PySem PySem.Spec PyProof.Rows L2 EvP
section
variable {CX : CXT} {P : Program} {w : World} {K : PySem.W.Frag} {mg : Str → Option Value} {base : Heap} {k : Nat} {f : Addr} {name qual : Str} {params : Arguments} {body : List Stmt} {scope : Scope} {dV kV doc pm cdv ct oc : Value} {an od : Option Addr}
  {osl : Array (Option Value)} {N ps : List Str} {sp : Sp}
/-- a def with a star: the tuple that it makes is known -/
theorem fn_starZ {pv : Str} (lk : K.lookup f = some ⟨oc, od, .func (PySem.W.fnOf name qual params body scope dV kV doc pm an cdv ct), osl⟩) (hcd : PySem.W.codeIn K cdv qual = true) (S : FnScope N (ps ++ [pv]) scope) (hCX : CXUp CX)
    (hb : ∀ us rest : List Value, us.length = ps.length → bindArgs (PySem.W.fnOf name qual params body scope dV kV doc pm an cdv ct) ⟨us ++ rest, []⟩ = (newTuple rest >>= fun t => pure (ps.zip us ++ [(pv, t)])))
    (hbody : ∀ (A : Around) (outer : List Env) (s : Shared) (H : Hp) (vs : List V) (Q : VK) (E : XK), Room k (A.deeper (envOfC qual scope s.heap.objs.size f cdv)) → sp vs H Q E →
      ∃ t, PSs (cxOf CX P w K mg base N qual scope f cdv A outer s H E) body t ∧ t { nx := fun _ H' => Q .non H', rt := Q } (start N vs) H) :
    FnR P w K mg base CX (k + 1) f (fun vs H Q E => ∃ ws rest, vs = ws ++ rest ∧ ws.length = ps.length ∧ rest.length ≤ sizeLine ∧ ∀ p H', H p = Option.none → Ex H H' → Fz H' p rest → (∀ b, b ≠ p → H' b = H b) → sp (ws ++ [V.ref p]) H' Q E) := by
  intro A outer s H us vs Q E hr e0 r hsp
  obtain ⟨ws, rest, ev, hl, hz, hq⟩ := hsp
  subst ev
  obtain ⟨u1, u2, eu, r1, r2⟩ := vals_split r
  subst eu
  have fresh : H s.heap.objs.size = Option.none := e0.hok.fresh (Nat.le_refl _)
  have l1 : u1.length = ps.length := by
    have := r1.length
    omega
  have l2 : u2.length ≤ sizeLine := by
    have := r2.length
    omega
  let ob : Obj := { cls := .type "tuple", data := .seq u2.toArray }
  refine run_bnd lk hcd S hr e0 (G := fun xs H2 => xs = ws ++ [V.ref s.heap.objs.size] ∧ H2 = upd H s.heap.objs.size (.frz ob (.tup rest))) (fun A' Ex' Q' h => ?_) fun s2 H2 xs ⟨ex, eH⟩ hr' => ?_
  · rw [hb u1 u2 l1]
    refine wpAny_bind (wpAny_newTuple (wpAny_pure ?_) l2)
    have at_ : (s.heap.push ob).get? s.heap.objs.size = some ob := Heap.get?_push_size _ rfl
    have new : ObjOk P w (upd H s.heap.objs.size (.frz ob (.tup rest))) (s.heap.push ob) s.heap.objs.size (.frz ob (.tup rest)) := ⟨at_, hz, u2, r2, ⟨_, at_, rfl, _, rfl⟩⟩
    have un := un_laid (fs := frs outer) (s := s) (o := ob) (u := .frz ob (.tup rest)) fresh
    have z := h _ _ (ws ++ [V.ref s.heap.objs.size]) (u1 ++ [Value.ref s.heap.objs.size]) (env0_laid e0 new) un rfl (fun e s' => hCX outer s H _ _ E e s' un (fun b o q => Heap.get?_push_of_some _ q) rfl) (r1.append (.cons rfl .nil))
      (by rw [List.length_append, List.length_append, hl] <;> rfl) ⟨rfl, rfl⟩
    rw [List.zip_append l1.symm] at z
    exact z
  · subst ex eH
    exact hbody A outer s2 _ _ Q E hr' (hq _ _ fresh (Ex.new fresh) ⟨ob, rfl, rfl, upd_same⟩ fun b nb => upd_ne nb)
end
end StX

set_option Elab.async false
set_option linter.all false
set_option maxRecDepth 100000
set_option maxHeartbeats 4000000
/-! The class Order: made of pairs. -/
namespace Od
open PySem PySem.NumText PySem.Spec PyProof.Rows L2 EvP Cm Fk DtE Tb Fi KSet Wd
open Dg hiding numT
/-- the class, its field -/
structure OrdC (K : PySem.W.Frag) (C : Addr) : Prop where
  cl : Cls K C
  nP : NoAttr K C "pairs"
/-- refs of a row of pairs, the pairs at them -/
abbrev refs (ks : List (List Key × Addr)) : List V := ks.map fun y => V.ref y.2
def Lie (H : Hp) (ks : List (List Key × Addr)) : Prop := ∀ y ∈ ks, H y.2 = some (.tup (y.1.map kV))
theorem Lie.ex {H H' : Hp} {ks : List (List Key × Addr)} (e : Ex H H') (h : Lie H ks) : Lie H' ks := fun y hy => e _ _ (h y hy)
/-- the order at x has just this row of pairs -/
structure OrdAt (C : Addr) (H : Hp) (x : Addr) (R : List (List Key)) : Prop where
  ex : ∃ (dx p : Addr) (ks : List (List Key × Addr)), H x = some (.ins C dx [("pairs", .ref p)]) ∧ Fz H p (refs ks) ∧ Lie H ks ∧ ks.map Prod.fst = R
theorem OrdAt.mono {C x : Addr} {H H' : Hp} {R : List (List Key)} (e : Ex H H') (h : OrdAt C H x R) : OrdAt C H' x R := by
  obtain ⟨dx, p, ks, h1, h2, h3, h4⟩ := h
  exact ⟨dx, p, ks, e _ _ h1, h2.ex e, h3.ex e, h4⟩
theorem ord_ins {C a : Addr} {H : Hp} {R : List (List Key)} (h : OrdAt C H a R) : Own.Ins H (.ref a) C := by
  obtain ⟨dx, p, ks, h1, _⟩ := h
  exact ⟨a, dx, _, rfl, h1⟩


abbrev partF (s : Str) : List (Str × V) := [(("part" : Str), V.str s)]
abbrev manyP : List (Str × V) := [(("most" : Str), V.int 36), (("what" : Str), V.str "pairs")]
/-- the errors' classes, as the top has written them -/
structure PartC (P : Program) (w : World) (K : PySem.W.Frag) (mg : Str → Option Value) (base : Heap) (nm : Str) (CO fE : Addr) (fdE : FuncData) : Prop where
  T : OexC K CO
  iC : PySem.W.findIn K (.ref CO) "__init__" = some (some (.ref fE))
  tI : PySem.W.typeIn K (.ref fE) = some (.type "function")
  no : PySem.W.findIn K (.ref CO) "part" = some none
  G : FnOk P w K mg base CX0 1 fE fdE ["self", "part"] (spInit1 K "part")
  b : Binds K fdE ["self", "part"] []
  g : mg nm = some (.ref CO)
structure ManyC (P : Program) (w : World) (K : PySem.W.Frag) (mg : Str → Option Value) (base : Heap) (CT fE : Addr) (fdE : FuncData) : Prop where
  T : OexC K CT
  iC : PySem.W.findIn K (.ref CT) "__init__" = some (some (.ref fE))
  tI : PySem.W.typeIn K (.ref fE) = some (.type "function")
  n1 : PySem.W.findIn K (.ref CT) "what" = some none
  n2 : PySem.W.findIn K (.ref CT) "most" = some none
  G : FnOk P w K mg base CX0 1 fE fdE ["self", "what", "most"] (spInit2 K "what" "most")
  b : Binds K fdE ["self", "what", "most"] []
  g : mg "TooMany" = some (.ref CT)
section
variable {P : Program} {w : World} {K : PySem.W.Frag} {mg : Str → Option Value} {base : Heap} {CO CT fE : Addr} {fdE : FuncData} {σ : L2.St} {H : Hp} {E : XK} {nm : Str}
/-- raise C("word"): the way out -/
theorem raise_part {s : Str} (L : PartC P w K mg base nm CO fE fdE) (k : ∀ d H', Ex H H' → H' d = some (.xd (partF s)) → E (.ref CO) (some d) H') :
    tMkO CO (spInit1 K "part") [] (tCons (tC (.str s)) tNil) σ H (fun cls d H' => E cls d H') := by
  refine ⟨(by show 1 ≤ 1000; decide), fun a ha => ?_⟩
  refine ⟨a, CO, .str s, rfl, L.T, L.no, upd_same, fun d hd ne => ?_⟩
  have hd' : H d = none := by rw [upd_ne ne] at hd; exact hd
  refine ⟨rfl, d, partF s, upd_same, by rw [upd_ne ne, upd_same], hd', ?_⟩
  refine k d _ (fun b o z => ?_) upd_same
  rw [upd_ne (ne_of_none z hd'), del_ne (ne_of_none z ha), upd_ne (ne_of_none z ha), upd_ne (ne_of_none z hd'), upd_ne (ne_of_none z ha)]
  exact z
theorem raise_manyP (L : ManyC P w K mg base CT fE fdE) (k : ∀ d H', Ex H H' → H' d = some (.xd manyP) → E (.ref CT) (some d) H') :
    tMkO CT (spInit2 K "what" "most") [] (tCons (tC (.str "pairs")) (tCons (tC (.int 36)) tNil)) σ H (fun cls d H' => E cls d H') := by
  refine ⟨(by show 2 ≤ 1000; decide), fun a ha => ?_⟩
  refine ⟨a, CT, .str "pairs", .int 36, rfl, L.T, L.n1, L.n2, upd_same, fun d hd ne => ?_⟩
  have hd' : H d = none := by rw [upd_ne ne] at hd; exact hd
  refine ⟨rfl, d, manyP, by rw [upd_ne ne.symm, upd_same], upd_same, hd', ?_⟩
  refine k d _ (fun b o z => ?_) upd_same
  rw [upd_ne (ne_of_none z hd'), del_ne (ne_of_none z ha), upd_ne (ne_of_none z hd'), upd_ne (ne_of_none z ha), upd_ne (ne_of_none z hd'), upd_ne (ne_of_none z ha)]
  exact z
end
/-- check_pairs of true pairs -/
abbrev sChk : Stmt := top 47
theorem scChk : FnScope ["values", "value"] ["values"] (defScope sChk) := ⟨rfl, rfl, rfl, by decide +kernel, rfl, by decide +kernel, by decide +kernel⟩
def spChk (K : PySem.W.Frag) : Sp := fun vs H Q _ => ∃ (t : Addr) (ks : List (List Key × Addr)), vs = [.ref t] ∧ Fz H t (refs ks) ∧ Lie H ks ∧ (∀ y ∈ ks, PairK y.1) ∧ ∀ H', Ex H H' → Q .non H'
section
variable {P : Program} {w : World} {K : PySem.W.Frag} {mg : Str → Option Value} {base : Heap} {f fP : Addr} {fd fdP : FuncData}
theorem ok_chk (F : Fun K "check_pairs" "check_pairs" sChk f fd) (GP : FnOk P w K mg base CX0 2 fP fdP ["value"] (spPair K)) (bP : Binds K fdP ["value"] []) (gP : mg "is_pair" = some (.ref fP)) (kP : PySem.W.keepIn K (.ref fP) = true) : FnOk P w K mg base CX0 3 f fd ["values"] (spChk K) := by
  have nd := scChk.nd
  refine F.ok scChk (fun vs H Q E h => ?_) (fun cdv A outer s H vs Q E hr h => ?_)
  · obtain ⟨t, ks, rfl, _⟩ := h
    rfl
  · obtain ⟨t, ks, rfl, ht, lie, pk, q⟩ := h
    refine ⟨_, pss_one (ps_for PassesOwn.never rfl (pi_tup (pv 0)) (pg_name (i := 1) nd rfl (Or.inl rfl))
      (pss_one (ps_if (pt_not (pt_val (pe_call GP hr (by rfl) gP kP bP .nil pass0 (pa_cons (pv 1) pa_nil)))) pss_dead pss_nil))), ?_⟩
    refine ⟨_, rfl, t, rfl, ⟨_, ht.sq⟩, for_it (walk_tup (xs := refs ks)) (fun n o H' => ∃ z, o = [some (.ref t), z] ∧ Ex H H') ⟨_, rfl, Ex.refl _⟩ (fun n o H' _ ⟨_, _, e⟩ => (ht.ex e).sq) (fun n x o H' H2 hn z y => ?_) (fun o H' z => ?_)⟩
    · obtain ⟨z1, rfl, e⟩ := z
      obtain ⟨rfl, hx⟩ := y
      rw [List.getElem?_map] at hx
      obtain ⟨yk, hy, rfl⟩ := Option.map_eq_some_iff.mp hx
      have my := List.mem_of_getElem? hy
      obtain ⟨a, b, ek, na, nb⟩ := pk yk my
      have hb := e _ _ (lie yk my)
      rw [ek] at hb
      exact ⟨_, rfl, yk.2, a, b, rfl, hb, na, nb, true, rfl, _, rfl, e⟩
    · obtain ⟨z1, rfl, e⟩ := z
      exact q H' e
end
/-- Order(..), of true pairs -/
def ometh (j : Nat) : Stmt := match top 50 with
  | .ClassDef _ _ _ body _ _ _ _ _ _ _ => body.getD j (.Pass ⟨0, 0, 0, 0⟩)
  | _ => .Pass ⟨0, 0, 0, 0⟩
abbrev sOI : Stmt := ometh 0
abbrev NOI : List Str := ["self", "pairs"]
theorem scOI : FnScope NOI ((["self"] : List Str) ++ [("pairs" : Str)]) (defScope sOI) := ⟨rfl, rfl, rfl, by decide +kernel, rfl, by decide +kernel, by decide +kernel⟩
/-- what becomes of the row of an order that is made: it, or an error -/
def Outc (C CO CT x : Addr) (ks : List (List Key × Addr)) (H : Hp) (Q : Hp → Prop) (E : XK) : Prop :=
  (¬ (ks.map Prod.fst).Nodup → ∀ d H', ButX x H H' → H' d = some (.xd (partF "twice")) → E (.ref CO) (some d) H') ∧
  ((ks.map Prod.fst).Nodup → 36 < ks.length → ∀ d H', ButX x H H' → H' d = some (.xd manyP) → E (.ref CT) (some d) H') ∧
  ((ks.map Prod.fst).Nodup → ks.length ≤ 36 → ∀ H', ButX x H H' → OrdAt C H' x (ks.map Prod.fst) → Q H')
def spOIn (C CO CT : Addr) : Sp := fun vs H Q E => ∃ (x p dx : Addr) (ks : List (List Key × Addr)), vs = [.ref x, .ref p] ∧ H x = some (.ins C dx []) ∧ Fz H p (refs ks) ∧ Lie H ks ∧ (∀ y ∈ ks, PairK y.1) ∧ ks.length < 64 ∧ Outc C CO CT x ks H (Q .non) E
def spOI (C CO CT : Addr) : Sp := fun vs H Q E => ∃ (x dx : Addr) (ks : List (List Key × Addr)), vs = .ref x :: refs ks ∧ H x = some (.ins C dx []) ∧ Lie H ks ∧ (∀ y ∈ ks, PairK y.1) ∧ ks.length < 64 ∧ Outc C CO CT x ks H (Q .non) E
section
variable {P : Program} {w : World} {K : PySem.W.Frag} {mg : Str → Option Value} {base : Heap} {C CO CT f fK fE fE2 : Addr} {fd fdK fdE fdE2 : FuncData}
theorem ok_oinit (F : Fun K "__init__" "Order.__init__" sOI f fd) (S : OrdC K C) (T : Fk.Blt mg) (hS : mg "set" = none) {tM : Tok} (gM : mg "MOST_PAIRS" = some (.int 36 tM)) (LO : PartC P w K mg base "BadOrder" CO fE fdE) (LT : ManyC P w K mg base CT fE2 fdE2)
    (GK : FnOk P w K mg base CX0 3 fK fdK ["values"] (spChk K)) (bK : Binds K fdK ["values"] []) (gK : mg "check_pairs" = some (.ref fK)) (kK : PySem.W.keepIn K (.ref fK) = true)
    (hb : ∀ us rest : List Value, us.length = (["self"] : List Str).length → bindArgs fd ⟨us ++ rest, []⟩ = (newTuple rest >>= fun t => pure ((["self"] : List Str).zip us ++ [(("pairs" : Str), t)]))) : FnR P w K mg base (L2.CX P w) 4 f (spOI C CO CT) := by
  have nd := scOI.nd
  obtain ⟨oc, od, kV, doc, pm, an, cdv, ct, osl, rfl, lk, hcd⟩ := F.ex
  refine FnR.imp (sp := fun vs H Q E => ∃ ws rest, vs = ws ++ rest ∧ ws.length = (["self"] : List Str).length ∧ rest.length ≤ sizeLine ∧ ∀ p H', H p = Option.none → Ex H H' → Fz H' p rest → (∀ b, b ≠ p → H' b = H b) → spOIn C CO CT (ws ++ [V.ref p]) H' Q E)
    (StX.fn_starZ (k := 3) (ps := ["self"]) lk hcd scOI StX.cxUp hb fun A outer s H vs Q E hr h => ?_) fun vs H Q E h => ?_
  · obtain ⟨x, p, dx, ks, rfl, hx, hp, lie, pk, few, o1, o2, o3⟩ := h
    have room : A.units + 3 + 3 < cLine := by
      have : A.units + 3 + 16 * 3 + 200 < cLine := hr.un
      omega
    refine ⟨_, pss_cons (ps_expr (pe_call GK hr (by rfl) gK kK bK .nil pass0 (pa_cons (pv 1) pa_nil)))
      (pss_cons (ps_if (pt_cmpR op_lt (pe_lenSetT rfl room (by rfl) T.len (by rfl) hS (pv 1)) (pe_callB call_len_seq (by rfl) T.len PySem.boot_len (pa_cons (pv 1) pa_nil)) (nomark _))
        (pss_one (ps_raise (W := fun cls d _ H => E cls d H) rfl (takes_of rfl rfl rfl rfl) (pmk_oex (CX := CX0) LO.T LO.iC LO.tI LO.G (hr.mono (by decide)) LO.b .nil pass0 (by rfl) LO.g (pa_cons pe_str pa_nil)))) pss_nil)
      (pss_cons (ps_if (pt_cmpR op_gt (pe_callB call_len_seq (by rfl) T.len PySem.boot_len (pa_cons (pv 1) pa_nil)) (pe_glob (v := .int 36) (by rfl) gM ⟨_, rfl⟩) (nomark _))
        (pss_one (ps_raise (W := fun cls d _ H => E cls d H) rfl (takes_of rfl rfl rfl rfl) (pmk_oex (CX := CX0) LT.T LT.iC LT.tI LT.G (hr.mono (by decide)) LT.b .nil pass0 (by rfl) LT.g (pa_cons pe_str (pa_cons (pe_glob (v := .int 36) (by rfl) gM ⟨_, rfl⟩) pa_nil))))) pss_nil)
      (pss_one (ps_fld (pv 0) (pv 1) rfl)))), ?_⟩
    refine ⟨_, rfl, p, ks, rfl, hp, lie, pk, fun H1 e1 => ?_⟩
    have hx1 := e1 _ _ hx
    have hp1 := hp.ex e1
    have lie1 := lie.ex e1
    have len : ((refs ks).length : Nat) = ks.length := List.length_map ..
    refine ⟨_, rfl, p, ks, rfl, .inr (hp1.sq), lie1, few, fun m le all => ?_⟩
    refine ⟨_, rfl, p, refs ks, rfl, .inr (hp1.sq), _, _, rfl, rfl, _, rfl, ?_⟩
    rw [len]
    by_cases nd1 : (ks.map Prod.fst).Nodup
    · have em := all.mpr nd1
      rw [decide_eq_false (show ¬ ((m : Nat) : Int) < (ks.length : Nat) by omega)]
      refine ⟨_, rfl, p, refs ks, rfl, .inr (hp1.sq), _, _, rfl, rfl, _, rfl, ?_⟩
      rw [len]
      by_cases c36 : 36 < ks.length
      · rw [decide_eq_true (show (36 : Int) < (ks.length : Nat) by omega)]
        exact raise_manyP LT fun d H2 e2 hd => o2 nd1 c36 d H2 (fun b o hb _ => e2 _ _ (e1 _ _ hb)) hd
      · rw [decide_eq_false (show ¬ (36 : Int) < (ks.length : Nat) by omega)]
        have px : p ≠ x := hp1.ne hx1 fun _ _ z => nomatch z
        refine ⟨_, rfl, _, rfl, x, C, dx, [], rfl, hx1, S.cl, S.nP, by show 0 < 1000; decide, o3 nd1 (by omega) _ (fun b o hb ne => ?_) ⟨dx, p, ks, upd_same, hp1.upd px, fun y hy => ?_, rfl⟩⟩
        · rw [upd_ne ne]
          exact e1 _ _ hb
        · have hy1 := lie1 y hy
          rw [upd_ne (ne_of hy1 hx1 fun z => nomatch z)]
          exact hy1
    · have nm : m ≠ ks.length := fun z => nd1 (all.mp z)
      rw [decide_eq_true (show ((m : Nat) : Int) < (ks.length : Nat) by omega)]
      exact raise_part LO fun d H2 e2 hd => o1 nd1 d H2 (fun b o hb _ => e2 _ _ (e1 _ _ hb)) hd
  · obtain ⟨x, dx, ks, rfl, hx, lie, pk, few, o1, o2, o3⟩ := h
    have len : ((refs ks).length : Nat) = ks.length := List.length_map ..
    refine ⟨[.ref x], refs ks, rfl, rfl, by rw [len, sizeLine_eq]; omega, fun p H0 hp e1 fz same => ?_⟩
    have back : ∀ {H'}, ButX x H0 H' → ButX x H H' := fun bt b o hb ne => bt b o (e1 _ _ hb) ne
    exact ⟨x, p, dx, ks, rfl, e1 _ _ hx, fz, lie.ex e1, pk, few, fun n d H' bt hd => o1 n d H' (back bt) hd, fun n c d H' bt hd => o2 n c d H' (back bt) hd, fun n c H' bt h => o3 n c H' (back bt) h⟩
end
end Od

set_option Elab.async false
set_option linter.all false
set_option maxRecDepth 100000
set_option maxHeartbeats 4000000
/-! Order.of; calls of a class with a star, or with nothing. -/
namespace StO
open PySem PySem.Spec PyProof.Rows L2 StX
section
variable {X : Cx} {CX : CXT} {k i : Nat} {f C : Addr} {sp : Sp} {E : XK} {x : Str} {e : Expr} {te : TE} {p sp_ pos np : Pos}
/-- C(*y) -/
def tMakeS (K : PySem.W.Frag) (C : Addr) (sp : Sp) (E : XK) (te : TE) : TE := fun σ H Q => te σ H fun y H1 => ∃ a xs, y = V.ref a ∧ (SqT K H1 a xs ∨ SqL K H1 a xs) ∧ tMakeR C sp E (fun σ H Q => Q xs H) σ H1 Q
theorem pe_makeS (M : Mk X.K C f) (F : FnR X.prog X.w X.K X.mg X.base CX k f sp) (hr : Room (k + 1) X.A) (hg : Gl X x) (hm : X.mg x = some (.ref C)) (hx : Passes CX X E) (he : PE X e te) (hd : (x == ("__debug__" : Str)) = false := by decide)
    (hst : starEach [.Starred e sp_] X.env = [(true, eval e X.env)] := by rfl) : PE X (.Call (.Name x p) [.Starred e sp_] [] pos) (tMakeS X.K C sp E te) := by
  refine ⟨fun pins s σ H Q I h => ?_⟩
  refine wpAny_Call_Name_kw (ld_glob I hg hm ?_ hd)
  refine PySem.W.callWith_S (h₀ := X.base) I.ok.mod.kin M.kp (thn (he.run pins s σ H _ I h) fun v s1 ⟨y, H1, I1, ry, a, xs, ey, hxs, q⟩ => ?_) hst
  subst ey
  obtain rfl : v = Value.ref a := ry
  exact star_any I1 hxs fun us s2 I2 rv => ⟨I2.kIn, run_makeR M F hr hx I2 rv q⟩
/-- C() -/
theorem pe_makeR0 (M : Mk X.K C f) (F : FnR X.prog X.w X.K X.mg X.base CX k f sp) (hr : Room (k + 1) X.A) (hg : Gl X x) (hm : X.mg x = some (.ref C)) (hx : Passes CX X E) (hd : (x == ("__debug__" : Str)) = false := by decide) : PE X (.Call (.Name x p) [] [] pos) (tMakeR C sp E tNil) := by
  refine ⟨fun pins s σ H Q I h => wpAny_Call_Name_kw (ld_glob I hg hm ?_ hd)⟩
  exact PySem.W.callWith_K0 I.kIn M.kp (run_makeR (us := []) (vs := []) M F hr hx I .nil h)
/-- cls(), a local name -/
def tMakeV0 (i : Nat) (C : Addr) (sp : Sp) (E : XK) : TE := fun σ H Q => σ[i]? = some (some (.ref C)) ∧ tMakeR C sp E tNil σ H Q
theorem pe_makeV0 (M : Mk X.K C f) (F : FnR X.prog X.w X.K X.mg X.base CX k f sp) (hr : Room (k + 1) X.A) (hx : Passes CX X E) (hN : X.N[i]? = some x) (hv : Vis X.env.scope x) (hd : (x == ("__debug__" : Str)) = false := by decide) (hcd : (x == ("__classdict__" : Str)) = false := by decide) :
    PE X (.Call (.Name x np) [] [] pos) (tMakeV0 i C sp E) := by
  refine ⟨fun pins s σ H Q I h => ?_⟩
  obtain ⟨hs, h⟩ := h
  refine wpAny_Call_Name_kw (thn ((pe_var (pos := np) (i := i) hN hv hd hcd).run pins s σ H (fun v H1 => v = .ref C ∧ H1 = H) I ⟨.ref C, hs, rfl, rfl⟩) fun u s1 ⟨v, H1, I1, r1, ev, eH⟩ => ?_)
  subst ev
  rw [eH] at I1
  cases r1
  exact PySem.W.callWith_K0 I1.kIn M.kp (run_makeR (us := []) (vs := []) M F hr hx I1 .nil h)
end
end StO
namespace Od
open PySem PySem.NumText PySem.Spec PyProof.Rows L2 EvP Cm Fk DtE Tb Fi KSet Wd
open Dg hiding numT
abbrev sOf : Stmt := ometh 1
theorem scOf : FnScope ["cls", "pairs"] ["cls", "pairs"] (defScope sOf) := ⟨rfl, rfl, rfl, by decide +kernel, rfl, by decide +kernel, by decide +kernel⟩
/-- what becomes of a row of pairs: an order, or an error -/
def Outs (C CO CT : Addr) (R : List (List Key)) (H : Hp) (Q : VK) (E : XK) : Prop :=
  (¬ R.Nodup → ∀ d H', Ex H H' → H' d = some (.xd (partF "twice")) → E (.ref CO) (some d) H') ∧
  (R.Nodup → 36 < R.length → ∀ d H', Ex H H' → H' d = some (.xd manyP) → E (.ref CT) (some d) H') ∧
  (R.Nodup → R.length ≤ 36 → ∀ b H', Ex H H' → OrdAt C H' b R → Q (.ref b) H')
/-- Order(..) of a row, at a new place -/
theorem outc_of {C CO CT x dx : Addr} {ks : List (List Key × Addr)} {H : Hp} {Q : VK} {E : XK} (hx : H x = none) (hdx : H dx = none) (o : Outs C CO CT (ks.map Prod.fst) H Q E) :
    Outc C CO CT x ks (upd (upd H dx (.own x)) x (.ins C dx [])) (fun H2 => V.non = V.non ∧ Q (.ref x) H2) E := by
  have e1 : Ex H (upd (upd H dx (.own x)) x (.ins C dx [])) := fun b o hb => by
    rw [upd_ne (ne_of_none hb hx), upd_ne (ne_of_none hb hdx)]
    exact hb
  have back : ∀ {H'}, ButX x (upd (upd H dx (.own x)) x (.ins C dx [])) H' → Ex H H' := fun bt b o hb => bt b o (e1 b o hb) (ne_of_none hb hx)
  obtain ⟨o1, o2, o3⟩ := o
  rw [List.length_map] at o2 o3
  exact ⟨fun n d H' bt hd => o1 n d H' (back bt) hd, fun n c d H' bt hd => o2 n c d H' (back bt) hd, fun n c H' bt h => ⟨rfl, o3 n c x H' (back bt) h⟩⟩
theorem make_of {C CO CT : Addr} {ks : List (List Key × Addr)} {σ : L2.St} {H : Hp} {Q : VK} {E : XK} (lie : Lie H ks) (pk : ∀ y ∈ ks, PairK y.1) (few : ks.length < 64) (o : Outs C CO CT (ks.map Prod.fst) H Q E) :
    StX.tMakeR C (spOI C CO CT) E (fun σ H Q => Q (refs ks) H) σ H Q := fun x dx hx hdx ne => by
  have e1 : Ex H (upd (upd H dx (.own x)) x (.ins C dx [])) := fun b o hb => by
    rw [upd_ne (ne_of_none hb hx), upd_ne (ne_of_none hb hdx)]
    exact hb
  exact ⟨x, dx, ks, rfl, upd_same, lie.ex e1, pk, few, outc_of hx hdx o⟩
def spOOf (K : PySem.W.Frag) (C CO CT : Addr) : Sp := fun vs H Q E => ∃ (l : Addr) (ks : List (List Key × Addr)), vs = [.ref C, .ref l] ∧ SqA K H l (refs ks) ∧ Lie H ks ∧ (∀ y ∈ ks, PairK y.1) ∧ ks.length < 64 ∧ Outs C CO CT (ks.map Prod.fst) H Q E
section
variable {P : Program} {w : World} {K : PySem.W.Frag} {mg : Str → Option Value} {base : Heap} {C CO CT f fI fR : Addr} {fd fdR : FuncData}
theorem ok_oof (F : Fun K "of" "Order.of" sOf f fd) (gO : mg "Order" = some (.ref C)) (M : Mk K C fI) (GI : FnR P w K mg base (L2.CX P w) 4 fI (spOI C CO CT))
    (GR : FnOk P w K mg base CX0 1 fR fdR ["value"] (spRow K)) (bR : Binds K fdR ["value"] []) (gR : mg "is_row" = some (.ref fR)) (kR : PySem.W.keepIn K (.ref fR) = true) : FnOk P w K mg base (L2.CX P w) 6 f fd ["cls", "pairs"] (spOOf K C CO CT) := by
  have nd := scOf.nd
  refine F.okX scOf (fun vs H Q E h => ?_) (fun cdv A outer s H vs Q E hr h => ?_)
  · obtain ⟨l, ks, rfl, _⟩ := h
    rfl
  · obtain ⟨l, ks, rfl, sq, lie, pk, few, o⟩ := h
    refine ⟨_, pss_cons (ps_if (pt_not (pt_val (pe_call GR (hr.mono (by decide)) (by rfl) gR kR bR .nil pass0 (pa_cons (pv 1) pa_nil)))) pss_dead pss_nil)
      (pss_one (ps_ret (StO.pe_makeS M GI hr (by rfl) gO (passes_call (W := fun cls d _ H => E cls d H) (takes_of rfl rfl rfl rfl) (fun _ _ _ _ z => z)) (pv 1)))), ?_⟩
    refine ⟨_, rfl, l, refs ks, rfl, sq, fun H1 e1 => ⟨true, rfl, ?_⟩⟩
    have e1 : Ex H H1 := e1
    have sq1 := SqA.keep e1 sq
    refine ⟨_, rfl, l, refs ks, rfl, sq1.symm, make_of (σ := []) (lie.ex e1) pk few ?_⟩
    obtain ⟨o1, o2, o3⟩ := o
    exact ⟨fun n d H' e hd => o1 n d H' (e1.trans e) hd, fun n c d H' e hd => o2 n c d H' (e1.trans e) hd, fun n c b H' e h => o3 n c b H' (e1.trans e) h⟩
end
end Od

set_option Elab.async false
set_option linter.all false
set_option maxRecDepth 100000
set_option maxHeartbeats 4000000
/-! list(x), x an own instance: its __iter__ hands back the iterator of a tuple, its __len__ tells an integer. -/
namespace Own
open PySem PySem.Spec PyProof.Rows L2 ItX
section
variable {X : Cx} {pins : List (Addr × Obj)} {σ : L2.St}
theorem fp_upd {H : Hp} {q it : Addr} {o : HO} (h : FpOk X pins H it) (ne : it ≠ q) : FpOk X pins (upd H q o) it := ⟨by rw [upd_ne ne]; exact h.1, h.2⟩
theorem it_loop {A1 : Around} {q t it : Addr} {zs : List V} {Rs : Result → Shared → Prop} (hh : A1.handled = none) (hz : zs.length ≤ sizeLine) :
    ∀ (k i : Nat) (H : Hp) (s : Shared), zs.length - i = k → i ≤ zs.length → Inv X pins σ H s → H q = some (.lst (zs.take i)) → SqT X.K H t zs → t ≠ q → FpOk X pins H it → s.heap.IsTupleIter it t i →
      (∀ s', Inv X pins σ (upd H q (.lst zs)) s' → Rs (.ok (.ret .none)) s') → codeAny (model X.prog X.w) A1 (.builtin "list.extend.loop" ⟨[.ref q, .ref it, .none], []⟩) Rs s := by
  intro k
  induction k with
  | zero =>
    intro i H s hk hi I hq ht tq hf st hR
    have e : i = zs.length := by omega
    subst e
    rw [List.take_length] at hq
    have eH : upd H q (.lst zs) = H := by
      funext b
      by_cases hb : b = q
      · rw [hb, upd_same, hq]
      · rw [upd_ne hb]
    rw [eH] at hR
    obtain ⟨its, rv, p, _⟩ := I.tuple ht
    obtain ⟨f0, f1, f2, f3, f4, f5⟩ := hf
    have hl := rv.length
    refine codeAny_builtin PySem.F.entry_extend_loop ?_
    rw [Around.under_plainId PySem.F.plain_extend_loop _]
    show wpAny _ A1.in1 (pyNext (.ref it) >>= _) _ _ s
    refine wpAny_bind (wpAny_pyNext_tuple_end (show A1.in1.handled = none from hh) st (show s.heap.IsTuple t its.toArray from p) (by simp; omega) fun h' eb => ?_)
    exact wpAny_pure (hR _ (I.turned (t' := s.toks) (fun b o hb e => eb b o hb e) f0 f1 f3 f4 f5))
  | succ k ih =>
    intro i H s hk hi I hq ht tq hf st hR
    have hlt : i < zs.length := by omega
    have hx : zs[i]? = some zs[i] := List.getElem?_eq_getElem hlt
    obtain ⟨its, rv, p, _⟩ := I.tuple ht
    obtain ⟨u, hu, ru⟩ := rv.get hx
    have hf' := hf
    obtain ⟨f0, f1, f2, f3, f4, f5⟩ := hf
    have iq : it ≠ q := fun z => by
      rw [z, hq] at f0
      cases f0
    refine codeAny_builtin PySem.F.entry_extend_loop ?_
    rw [Around.under_plainId PySem.F.plain_extend_loop _]
    show wpAny _ A1.in1 (pyNext (.ref it) >>= _) _ _ s
    refine wpAny_bind (wpAny_pyNext_tuple_item st (show s.heap.IsTuple t its.toArray from p) (x := u) (by simpa using hu) fun h' st' sb => ?_)
    have I1 : Inv X pins σ H { s with heap := h' } := I.turned (t' := s.toks) (fun b o hb e => (sb.2 b hb).trans e) f0 f1 f3 f4 f5
    show wpAny _ A1.in1 (updateSeq q (·.push u) >>= _) _ _ _
    obtain ⟨z, its2, n2, r2, hl2, e2⟩ := I1.lstM hq
    have lt2 : its2.length < sizeLine := by
      rw [← hl2, List.length_take]
      omega
    refine wpAny_bind (wpAny_updateSeq e2 rfl (wpAny_pure ⟨plainId_quiet PySem.F.plain_extend_loop _, ?_⟩) (by rw [List.size_toArray]; omega) (by show (its2.toArray.push u).size ≤ sizeLine + 1; rw [Array.size_push, List.size_toArray]; omega))
    have tk : zs.take (i + 1) = zs.take i ++ [zs[i]] := by rw [List.take_add_one, hx]; rfl
    refine ih (i + 1) (upd H q (.lst (zs.take (i + 1)))) _ (by omega) (by omega) ?_ upd_same ?_ tq (fp_upd hf' iq) ?_ fun s' I' => hR s' (by rw [upd_upd] at I'; exact I')
    · rw [tk]
      exact I1.lset (its' := its2 ++ [u]) (t' := s.toks) hq e2 (by simp) (r2.append (.cons ru .nil)) (by rw [List.length_append, List.length_singleton, List.length_take]; omega)
    · rcases ht with ht | ht
      · refine .inl ?_
        rcases ht with ht | ⟨o, ht⟩
        · exact .inl (by rw [upd_ne tq]; exact ht)
        · exact .inr ⟨o, by rw [upd_ne tq]; exact ht⟩
      · exact .inr ht
    · exact st'.at fun o e => (Heap.get?_update_other _ _ (Ne.symm iq)).trans e
end
section
variable {X : Cx} {pins : List (Addr × Obj)} {σ : L2.St} {H : Hp} {s : Shared} {f : Addr} {fd : FuncData} {k : Nat} {ps : List Str} {sp : Sp}
/-- the call of a def that lets nothing out, wherever an error would go -/
theorem run_atE {A' : Around} {E : Value → Shared → Prop} {vs : List V} {us : List Value} {Q : VK} (F : FnOk X.prog X.w X.K X.mg X.base CX0 k f fd ps sp) (b : Binds X.K fd ps []) (frames : A'.frames = X.A.frames) (hr : Room k A') (I : Inv X pins σ H s) (r : Vals vs us) (h : sp vs H Q E0) :
    wpAny (model X.prog X.w) A' (call (.ref f) us) (EP X pins σ Q) E s := by
  have e := I.env0
  have n : (us ++ []).length = ps.length := by rw [List.append_nil, ← r.length]; exact F.len _ _ _ _ h
  refine wpAny_call (codeAny_mono (F.run A' X.stack s H ⟨us, []⟩ (us ++ []) vs Q E0 hr ⟨frames.trans e.frames, e.mod, e.bs, e.bsz, e.funs, e.frf, e.hok, e.bare⟩ (b s us I.kIn n) (by rw [List.append_nil]; exact r) h) fun r s' q => ?_)
  cases r with
  | error e => exact (show False from q).elim
  | ok fl =>
    cases fl with
    | ret u => exact I.after q
    | next => exact (show False from q).elim
    | brk => exact (show False from q).elim
    | cont => exact (show False from q).elim
end
section
variable {X : Cx} {C fI fL : Addr} {fdI fdL : FuncData} {kI kL : Nat} {psI psL : List Str} {spI : Nat → Sp} {spN : Sp}
/-- list(x): n is what the heap holds when __iter__ begins -/
def rListIt (K : PySem.W.Frag) (C : Addr) (spI : Nat → Sp) (spN : Sp) : List V → Hp → VK → Prop := fun xs H Q => ∃ x, xs = [x] ∧ Ins H x C ∧ ∀ q, H q = none → ∀ n, spI n [x] (upd H q (.lst [])) (fun v H2 => ∃ it t zs, v = .ref it ∧ H2 it = some (ItT t it) ∧ n ≤ it ∧ Ins H2 x C ∧ H2 q = some (.lst []) ∧
  spN [x] (dropH H2 it) (fun v H3 => ∃ k : Nat, v = .int k ∧ k < 1000000 ∧ H3 q = some (.lst []) ∧ t ≠ q ∧ SqT K H3 t zs ∧ zs.length ≤ 1000 ∧ Q (.ref q) (upd H3 q (.lst zs))) E0) E0
theorem call_listIt (itA : PySem.W.findIn X.K (.ref C) "__iter__" = some (some (.ref fI))) (itN : PySem.W.isFn X.K (.ref fI) = true) (FI : FnZ X.prog X.w X.K X.mg X.base kI fI ["self"] fdI spI) (bI : Binds X.K fdI ["self"] [])
    (M : Mt X.prog X.w X.K X.mg X.base C "__len__" kL ["self"] spN fL fdL) (hrI : Room (kI + 3) X.A) (hrL : Room (kL + 3) X.A) (hcalm : X.calm = true) : CallR X (.type "list") (rListIt X.K C spI spN) := by
  intro pins s σ H xs us Q I rv h
  obtain ⟨_, rfl, ⟨a, dx, fs, rfl, ha⟩, hq⟩ := h
  obtain ⟨u, rfl, ru⟩ := rv.one
  cases ru
  refine callType_codes (Q₁ := fun obj s₁ => obj = .ref s.heap.objs.size ∧ s₁ = { s with heap := s.heap.push { cls := .type "list", data := .seq #[] } }) PySem.F.called_list (PySem.F.typeCall_list_1 _) PySem.F.entry_list_init
    (code_list_new _ ⟨rfl, rfl⟩) fun obj s₁ h₁ => ?_
  obtain ⟨rfl, rfl⟩ := h₁
  have hS : (s.heap.push { cls := .type "list", data := .seq #[] }).get? s.heap.objs.size = some { cls := .type "list", data := .seq #[] } := Heap.get?_push_size _ rfl
  refine ⟨⟨_, hS, rfl⟩, PySem.F.args_list_init_2 _ _, ?_⟩
  have fr : H s.heap.objs.size = none := I.hok.fresh (Nat.le_refl _)
  have I1 : Inv X pins σ (upd H s.heap.objs.size (.lst [])) { s with heap := s.heap.push { cls := .type "list", data := .seq #[] } } := I.lnew (its := []) (t' := s.toks) .nil (Nat.zero_le _)
  show wpAny _ _ (do let old ← Builtin.List.listItems (.ref s.heap.objs.size); Builtin.List.listUpdate (.ref s.heap.objs.size) (fun _ => #[]); letGo old.toList.reverse; Builtin.List.listExtendWith (.ref s.heap.objs.size) (.ref a) .none) _ _ _
  refine wpAny_bind ?_
  unfold Builtin.List.listItems
  refine wpAny_bind (wpAny_seqItems hS rfl (wpAny_pure ?_))
  show wpAny _ _ (updateSeq s.heap.objs.size (fun _ => #[]) >>= fun _ => letGo (#[] : Array Value).toList.reverse >>= fun _ => Builtin.List.listExtendWith (.ref s.heap.objs.size) (.ref a) .none) _ _ _
  refine wpAny_bind (wpAny_updateSeq hS rfl ?_)
  have I2 := I1.lset (f := fun _ => #[]) (its := []) (its' := []) (ys := []) (t' := s.toks) upd_same hS rfl .nil (Nat.zero_le _)
  rw [upd_upd] at I2
  refine wpAny_bind (wpAny_letGo ?_)
  have ha2 : upd H s.heap.objs.size (.lst []) a = some (.ins C dx fs) := by rw [upd_ne (ne_of_none ha fr)]; exact ha
  have hne : s.heap.objs.size ≠ a := (ne_of_none ha fr).symm
  have hq2 : upd H s.heap.objs.size (.lst []) s.heap.objs.size = some (.lst []) := upd_same
  have hspI := hq s.heap.objs.size fr
  generalize upd H s.heap.objs.size (.lst []) = G at I2 ha2 hq2 hspI
  generalize s.heap.objs.size = q at I2 ha2 hq2 hspI hne
  generalize { s with heap := _, toks := s.toks } = s2 at I2
  obtain ⟨ox, od, J⟩ := ins_at I2 ha2
  obtain ⟨m0, hF⟩ := I2.fr
  unfold Builtin.List.listExtendWith
  refine wpAny_bind (J.type.here ?_)
  have h1 : Builtin.List.listSameRef (.ref q) (.ref a) = false := by simp [Builtin.List.listSameRef, hne]
  have h2 : (Value.ref C == Value.type "list") = false := rfl
  have h3 : (Value.ref C == Value.type "tuple") = false := rfl
  simp only [h1, h2, h3, Bool.or_false, Bool.false_eq_true, if_false]
  have e0 := I2.env0
  refine wpAny_bind (PySem.W.owit_iter hF I2.ok.mod.kin J itA itN (wpAny_call (codeAny_mono (FI.run X.A.in1.in1 X.stack s2 G ⟨[.ref a], []⟩ [.ref a] [.ref a] _ (hrI.mono (by omega)).in1.in1 ⟨e0.frames, e0.mod, e0.bs, e0.bsz, e0.funs, e0.frf, e0.hok, e0.bare⟩ (bI s2 [.ref a] I2.kIn rfl) (.cons rfl .nil) rfl (hspI s2.heap.objs.size)) fun r s' z => ?_)))
  cases r with
  | error e => exact (show False from z).elim
  | ok fl =>
    cases fl with
    | next => exact (show False from z).elim
    | brk => exact (show False from z).elim
    | cont => exact (show False from z).elim
    | ret u =>
      obtain ⟨v, H2, I3, rv3, it, t, zs, rfl, hit, hn, ⟨b, dx3, fs3, eb, hb⟩, hq3, hspN⟩ := I2.after z
      cases eb
      cases rv3
      have st := itT_get I3 hit
      obtain ⟨o, ho, hc, hd⟩ := id st
      show PySem.W.OwitIt _ _ _ _ _ _
      unfold PySem.W.OwitIt specialOf
      have ty : s'.TypeIs (.ref it) "tuple_iterator" := ⟨o, ho, hc⟩
      refine wpAny_bind (wpAny_typeOf ty ?_)
      rw [PySem.F.slot_tuple_iterator_next.lookup]
      refine wpAny_pure ?_
      have hit' := hit
      unfold ItT at hit'
      have I4 := inv_drop I3 hit'
      have fp4 : FpOk X pins (dropH H2 it) it := inv_fp I3 hit (Nat.le_trans I2.sz hn)
      have T := turn_tuple (P := X.prog) (w := X.w) (K := X.K) (tg := .Name "x" ⟨0, 0, 0, 0⟩) t it
      have I5 := I4.pinned (fp := [it]) (fun b hb => by
        obtain rfl : b = it := by simpa using hb
        exact fp4) (fun b hb => by
        obtain rfl : b = it := by simpa using hb
        exact ⟨o, ho, fun v z => by rw [hd] at z; cases z⟩)
      have ab : a ≠ it := fun z => by
        rw [z, hit'] at hb
        cases hb
      have hb4 : dropH H2 it a = some (.ins C dx3 fs3) := by rw [dropH_ne ab]; exact hb
      obtain ⟨ox5, od5, J5⟩ := ins_at I5 hb4
      obtain ⟨m5, hF5⟩ := I5.fr
      refine wpAny_bind (wpAny_holding ?_)
      unfold Builtin.List.listLengthHint
      refine wpAny_bind (wpAny_bind (J5.type.here ((PySem.W.looks_findIn I5.kIn M.at_).here ?_)))
      refine PySem.W.KFB.if_not rfl ?_
      refine PySem.W.KFB.if_so rfl ?_
      refine wpAny_bind (wpAny_rule ?_)
      refine wpAny_bind (wpAny_attempt ?_)
      have ne' : a ≠ q := hne.symm
      refine PySem.W.len_K hF5 I5.ok.mod.kin J5 M.at_ M.fn (wpAny_mono (run_atE (E := fun _ _ => False) M.ok M.b rfl (hrL.mono (by omega)).in1.in1.in1 I5 (.cons (show RelV (V.ref a) (Value.ref a) from rfl) .nil) hspN) (fun r6 s6 z6 => ?_) fun _ _ z => z.elim)
      obtain ⟨v6, H6, I6, rv6, n6, rfl, h6, hq6, tq, ht6, hz6, q6⟩ := z6
      obtain ⟨t6, rfl⟩ := rv6
      refine ⟨⟨by omega, by omega⟩, ?_⟩
      show wpAny _ _ (asInt? (Value.int (n6 : Int) s6.toks) >>= _) _ _ _
      refine wpAny_bind (wpAny_of_eq (a := some (n6 : Int)) rfl ?_)
      refine PySem.W.KFB.if_not (notLongL (by rw [sizeLine_eq]; simp; omega)) ?_
      refine wpAny_pure ?_
      have I7 := I6.unpinned
      have pin := fun o e => I6.pin (it, o) (List.mem_append_right _ (List.mem_append_right _ (mem_pinsAt (fp := [it]) (h := s'.heap) (by simp) e)))
      have st6 : s6.heap.IsTupleIter it t 0 := st.at fun o e => (pin o e).1
      have fp6 : FpOk X pins H6 it := ⟨(pin o ho).2.1, fp4.2⟩
      have zl : zs.length ≤ sizeLine := by rw [sizeLine_eq]; omega
      have fin : ∀ s8, Inv X pins σ (upd H6 q (.lst zs)) s8 → wants (fun r s₂ => r = .none ∧ EP X pins σ Q (.ref q) s₂) X.xe (.ok (.ret .none)) s8 := fun s8 I8 => ⟨rfl, .ref q, _, I8, rfl, q6⟩
      have eH : upd H6 q (.lst []) = H6 := by
        funext b
        by_cases hb : b = q
        · rw [hb, upd_same, hq6]
        · rw [upd_ne hb]
      have I7' : Inv X pins σ H6 { s6 with toks := s6.toks + 1 } := I7.tok _
      obtain ⟨z3, its3, k3, r3, hl3, e3⟩ := I7'.lstM hq6
      cases r3
      refine wpAny_ite_split (fun _ => ?_) (fun _ => wpAny_pure ⟨plainId_quiet PySem.F.plain_extend_loop _, it_loop (A1 := X.A.in1) (I.ok.hd hcalm) zl zs.length 0 H6 _ (by omega) (by omega) I7' (by rw [List.take_zero]; exact hq6) ht6 tq fp6 st6 fin⟩)
      refine wpAny_bind (wpAny_rule ?_)
      refine wpAny_bind ?_
      show wpAny _ _ (updateSeq q (·.push .none) >>= fun _ => updateSeq q (·.pop)) _ _ _
      refine wpAny_bind (wpAny_updateSeq e3 rfl ?_)
      have I8 := I7'.lset (f := (·.push Value.none)) (its' := [Value.none]) (ys := [.non]) (t' := s6.toks + 1) hq6 e3 (by simp) (.cons rfl .nil) (by rw [List.length_singleton, sizeLine_eq]; decide)
      obtain ⟨z4, its4, k4, r4, hl4, e4⟩ := I8.lstM upd_same
      obtain ⟨u4, rfl, ru4⟩ := r4.one
      refine wpAny_updateSeq e4 rfl ?_ (by show 1 ≤ sizeLine; rw [sizeLine_eq]; decide) (by show 0 ≤ sizeLine + 1; exact Nat.zero_le _)
      have I9 := I8.lset (f := (·.pop)) (its := [u4]) (its' := []) (ys := []) (t' := s6.toks + 1) upd_same e4 (by rfl) .nil (Nat.zero_le _)
      rw [upd_upd, eH] at I9
      have itq : it ≠ q := fun z => by
        have := fp6.1
        rw [z, hq6] at this
        cases this
      exact wpAny_pure ⟨plainId_quiet PySem.F.plain_extend_loop _, it_loop (A1 := X.A.in1) (I.ok.hd hcalm) zl zs.length 0 H6 _ (by omega) (by omega) I9 (by rw [List.take_zero]; exact hq6) ht6 tq fp6 (st6.at fun o e => (Heap.get?_update_other _ _ (Ne.symm itq)).trans ((Heap.get?_update_other _ _ (Ne.symm itq)).trans e)) fin⟩
end
end Own

set_option Elab.async false
set_option linter.all false
set_option maxRecDepth 100000
set_option maxHeartbeats 4000000
/-! Order: ==, len, iteration, list(order), str. -/
namespace Od
open PySem PySem.NumText PySem.Spec PyProof.Rows L2 EvP Cm Fk DtE Tb Fi KSet Wd
open Dg hiding numT
/-- keys that may be written and held against one another -/
def Fine (R : List (List Key)) : Prop := ∀ k ∈ R, GoodP k
theorem eqv_keys : ∀ {R S : List (List Key)}, Fine R → Fine S → PyData.eqvAll (R.map keyD) (S.map keyD) = decide (R = S)
  | [], [], _, _ => rfl
  | [], _ :: _, _, _ => rfl
  | _ :: _, [], _, _ => rfl
  | k :: R, l :: S, hR, hS => by
    show (PyData.eqv (keyD k) (keyD l) && PyData.eqvAll (R.map keyD) (S.map keyD)) = _
    rw [eqv_keys (fun y hy => hR y (.tail _ hy)) fun y hy => hS y (.tail _ hy)]
    have e : PyData.eqv (keyD k) (keyD l) = decide (k = l) := by
      obtain ⟨a, x, ek, _⟩ := hR k (.head _)
      obtain ⟨b, y, el, _⟩ := hS l (.head _)
      subst ek el
      show ((a == b) && ((x == y) && true)) = _
      by_cases h1 : a = b
      · by_cases h2 : x = y
        · simp [h1, h2]
        · simp [key2, h2]
      · simp [key2, h1]
    rw [e]
    by_cases h1 : k = l
    · by_cases h2 : R = S
      · simp [h1, h2]
      · simp [h2]
    · simp [h1]
theorem dp_refs {K : PySem.W.Frag} {H : Hp} : ∀ {ks : List (List Key × Addr)}, Lie H ks → DpAll K H (refs ks) ((ks.map Prod.fst).map keyD)
  | [], _ => .nil
  | y :: ks, h => .cons (.tup (SqT.of (h y (.head _))) (dp_key y.1)) (dp_refs fun z hz => h z (.tail _ hz))
theorem shaped_tup {R : List (List Key)} (h : Fine R) : SeqAt.shaped (.tuple (R.map keyD)) = true := by
  have d := depth_keysL h
  show (PyData.canLayAll0 (R.map keyD) && decide (PyData.depthAll (R.map keyD) + 1 ≤ 64)) = true
  rw [lay_keysL h, decide_eq_true (by omega)]
  rfl
abbrev sEq : Stmt := ometh 15
abbrev sLen : Stmt := ometh 2
abbrev sIter : Stmt := ometh 3
abbrev sStr : Stmt := ometh 16
theorem scEq : FnScope ["self", "other"] ["self", "other"] (defScope sEq) := ⟨rfl, rfl, rfl, by decide +kernel, rfl, by decide +kernel, by decide +kernel⟩
theorem scLen : FnScope ["self"] ["self"] (defScope sLen) := ⟨rfl, rfl, rfl, by decide +kernel, rfl, by decide +kernel, by decide +kernel⟩
theorem scIter : FnScope ["self"] ["self"] (defScope sIter) := ⟨rfl, rfl, rfl, by decide +kernel, rfl, by decide +kernel, by decide +kernel⟩
abbrev NSo : List Str := ["self", "source", "use"]
theorem scStr : FnScope NSo ["self"] (defScope sStr) := ⟨rfl, rfl, rfl, by decide +kernel, rfl, by decide +kernel, by decide +kernel⟩
def spOEq (C : Addr) : Sp := fun vs H Q _ => ∃ a b R R', vs = [.ref a, .ref b] ∧ OrdAt C H a R ∧ OrdAt C H b R' ∧ Fine R ∧ Fine R' ∧ Q (.bl (decide (R = R'))) H
def spOEqs (K : PySem.W.Frag) (C : Addr) : Sp := fun vs H Q E => spOEq C vs H Q E ∨ spNe K C vs H Q E
def spOLen (C : Addr) : Sp := fun vs H Q _ => ∃ a R, vs = [.ref a] ∧ OrdAt C H a R ∧ Q (.int R.length) H
def spOIter (C : Addr) (n : Nat) : Sp := fun vs H Q _ => ∃ a R, vs = [.ref a] ∧ OrdAt C H a R ∧ ∀ r ks it, Fz H r (refs ks) → Lie H ks → ks.map Prod.fst = R → H it = none → n ≤ it → Q (.ref it) (upd H it (Own.ItT r it))
/-- a pair, written -/
def wordO (k : List Key) : Str := Str.empty ++ nmK 0 k ++ " " ++ nmK 1 k
def lineO (R : List (List Key)) : Str := if R.isEmpty = true then "-" else Txt.join " ; " (R.map wordO)
theorem wordO_len {k : List Key} (h : GoodP k) : (Str.empty ++ nmK 0 k).length ≤ 8 ∧ (Str.empty ++ nmK 0 k ++ " ").length ≤ 9 ∧ (wordO k).length ≤ 17 ∧ (nmK 0 k).length ≤ 8 ∧ (nmK 1 k).length ≤ 8 := by
  obtain ⟨a, x, rfl, ha, hx⟩ := h
  have la := name_len ha
  have lx := name_len hx
  have a0 : (Str.empty ++ a).length = a.length := by
    rw [Str.length_append]
    exact Nat.zero_add _
  have a1 : (Str.empty ++ a ++ " ").length = a.length + 1 := by
    rw [Str.length_append, a0]
    rfl
  have a2 : (wordO (key2 a x)).length = a.length + 1 + x.length := by
    unfold wordO
    rw [nmK_0, nmK_1, Str.length_append, a1]
  rw [nmK_0, nmK_1]
  exact ⟨by omega, by omega, by omega, la, lx⟩
theorem wordsO_len : ∀ {R : List (List Key)}, Fine R → ((R.map wordO).map (·.length)).sum ≤ R.length * 17
  | [], _ => Nat.le_refl _
  | k :: r, h => by
    have ih := wordsO_len fun y hy => h y (List.mem_cons_of_mem k hy)
    have h0 := (wordO_len (h k (.head _))).2.2.1
    rw [List.map_cons, List.map_cons, List.sum_cons, List.length_cons]
    omega
def spOStr (C : Addr) : Sp := fun vs H Q _ => ∃ a R, vs = [.ref a] ∧ OrdAt C H a R ∧ Fine R ∧ R.length ≤ 100 ∧ ∀ H', Ex H H' → Q (.str (lineO R)) H'
section
variable {P : Program} {w : World} {K : PySem.W.Frag} {mg : Str → Option Value} {base : Heap} {C f : Addr} {fd : FuncData}
theorem ok_oeq (F : Fun K "__eq__" "Order.__eq__" sEq f fd) (S : OrdC K C) (SI : SideI K C) (T : Fk.Blt mg) (gO : mg "Order" = some (.ref C)) : FnOk P w K mg base CX0 1 f fd ["self", "other"] (spOEqs K C) := by
  refine F.ok scEq (fun vs H Q E h => ?_) (fun cdv A outer s H vs Q E hr h => ?_)
  · rcases h with ⟨a, b, R, R', rfl, _⟩ | ⟨x, y, t, rfl, _⟩ <;> rfl
  · refine ⟨_, pss_one (ps_ret (pe_and (pe_callB call_isi (by rfl) T.isi (by decide +kernel) (pa_cons (pv 1) (pa_cons (pe_glob (v := .ref C) (by rfl) gO rfl) pa_nil)))
      (pe_one (pe_cmpR (op_eqD hr.units) (pe_fld (pv 0) rfl) (pe_fld (pv 1) rfl) (nomark _))))), ?_⟩
    rcases h with ⟨a, b, R, R', rfl, ⟨dx, p, ks, h1, h2, h3, h4⟩, ⟨dx', p', ks', k1, k2, k3, k4⟩, o1, o2, q⟩ | ⟨x, y, t, rfl, ty, kt, q⟩
    · refine ⟨_, rfl, _, _, _, _, true, rfl, .own C, .base (.ins k1 S.cl SI.ha SI.hn SI.htk SI.hm), ?_, _, rfl, ?_⟩
      · unfold PySem.W.kitOne
        rw [if_pos (by simp)]
      refine ⟨_, rfl, a, C, dx, _, _, rfl, h1, S.cl, S.nP, rfl, _, rfl, b, C, dx', _, _, rfl, k1, S.cl, S.nP, rfl, .tuple (R.map keyD), .tuple (R'.map keyD), .tup (h2.sq) (by rw [← h4]; exact dp_refs h3), .tup (k2.sq) (by rw [← k4]; exact dp_refs k3), shaped_tup o1, shaped_tup o2, ?_⟩
      rw [show PyData.eqv (.tuple (R.map keyD)) (.tuple (R'.map keyD)) = decide (R = R') from eqv_keys o1 o2]
      exact q
    · exact ⟨_, rfl, _, _, _, _, false, rfl, .own C, ty, kt, _, rfl, q⟩
theorem ok_olen (F : Fun K "__len__" "Order.__len__" sLen f fd) (S : OrdC K C) (T : Fk.Blt mg) : FnOk P w K mg base CX0 1 f fd ["self"] (spOLen C) := by
  refine F.ok scLen (fun vs H Q E h => ?_) (fun cdv A outer s H vs Q E hr h => ?_)
  · obtain ⟨a, R, rfl, _⟩ := h
    rfl
  · obtain ⟨a, R, rfl, ⟨dx, p, ks, h1, h2, h3, h4⟩, q⟩ := h
    refine ⟨_, pss_one (ps_ret (pe_callB call_len_seq (by rfl) T.len PySem.boot_len (pa_cons (pe_fld (pv 0) rfl) pa_nil))), ?_⟩
    refine ⟨_, rfl, a, C, dx, _, _, rfl, h1, S.cl, S.nP, rfl, p, refs ks, rfl, .inr (h2.sq), ?_⟩
    rw [List.length_map, ← List.length_map (f := Prod.fst), h4]
    exact q
theorem ok_oiter (F : Fun K "__iter__" "Order.__iter__" sIter f fd) (S : OrdC K C) (hI : mg "iter" = none) : Own.FnZ P w K mg base 1 f ["self"] fd (spOIter C) := by
  refine Own.Fun.okZ F scIter fun cdv A outer s H vs Q hr h => ?_
  obtain ⟨a, R, rfl, ⟨dx, p, ks, h1, h2, h3, h4⟩, q⟩ := h
  refine ⟨_, pss_one (ps_ret (pe_callB Own.call_iterT (by rfl) hI (by decide +kernel) (pa_cons (pe_fld (pv 0) rfl) pa_nil))), ?_⟩
  exact ⟨_, rfl, a, C, dx, _, _, rfl, h1, S.cl, S.nP, rfl, p, refs ks, rfl, h2.sq, fun it hit hn => q p ks it h2 h3 h4 hit hn⟩
theorem ok_ostr (F : Fun K "__str__" "Order.__str__" sStr f fd) (S : OrdC K C) : FnOk P w K mg base CX0 1 f fd ["self"] (spOStr C) := by
  have nd := scStr.nd
  refine F.ok scStr (fun vs H Q E h => ?_) (fun cdv A outer s H vs Q E hr h => ?_)
  · obtain ⟨a, R, rfl, _⟩ := h
    rfl
  · obtain ⟨a, R, rfl, ⟨dx, p, ks, h1, h2, h3, h4⟩, fine, few, q⟩ := h
    refine ⟨_, pss_cons (ps_if (pt_not (pt_truth (pe_fld (pv 0) rfl) (by intro _; rfl))) (pss_one (ps_ret pe_str)) pss_nil)
      (pss_one (ps_ret (pe_join pe_str (pe_lc (own := [("source", 1), ("use", 2)]) (g := gTup K 2 (gCons (gName 1) (gCons (gName 2) gNil))) (tt := tYes) rfl nd (pi_tup (pe_fld (pv 0) rfl)) (blkOk_by (N := NSo) (sc := defScope sStr) (by decide +kernel))
        (fun _ _ _ _ _ => by exact pg_tup rfl (pgs_cons (pg_name (i := 1) nd rfl (Or.inl rfl)) (pgs_cons (pg_name (i := 2) nd rfl (Or.inl rfl)) pgs_nil))) (fun _ _ _ _ _ => pts_nil)
        (fun _ _ _ _ _ => pe_joined (.cons (pe_fmt (pv 1)) (.cons pe_str (.cons (pe_fmt (pv 2)) .nil)))))))), ?_⟩
    refine ⟨_, rfl, a, C, dx, _, _, rfl, h1, S.cl, S.nP, rfl, _, .inr (.inl ⟨_, h2.sq, rfl⟩), ?_⟩
    have lk : ks.length = R.length := by rw [← h4, List.length_map]
    cases R with
    | nil =>
      have e : ks = [] := List.length_eq_zero_iff.mp lk
      subst e
      exact q H (Ex.refl H)
    | cons k0 kr =>
      generalize hts : k0 :: kr = R at *
      have ne : R.isEmpty = false := by
        rw [← hts]
        rfl
      have line : lineO R = Txt.join " ; " (R.map wordO) := by
        unfold lineO
        rw [ne, if_neg Bool.false_ne_true]
      have emp : (refs ks).isEmpty = false := by
        cases ks with
        | nil =>
          rw [← hts] at lk
          cases lk
        | cons _ _ => rfl
      rw [emp]
      dsimp only [Bool.not_false, Bool.not_true, tNext]
      rw [if_neg (by decide)]
      refine' st_retJoin ?g1 ?k1
      case g1 =>
        refine compP (xs := refs ks) (Ps := R.map fun k => is (.str (wordO k))) (walks_fz (g_fld rfl h1 S.cl S.nP rfl (⟨p, rfl, h2⟩ : (fzV (refs ks)).R (.ref p) H))) (by rw [List.length_map]; omega) (by rw [List.length_map, List.length_map, lk]) (fun j x P hx hP => ?_) (fun P hP => ?_)
        · rw [List.getElem?_map] at hP hx
          obtain ⟨k, hk, rfl⟩ := Option.map_eq_some_iff.mp hP
          obtain ⟨y, hy, rfl⟩ := Option.map_eq_some_iff.mp hx
          have ey : y.1 = k := by
            rw [← h4, List.getElem?_map, hy] at hk
            exact Option.some.inj hk
          subst ey
          have gk := fine y.1 (List.mem_of_getElem? hk)
          obtain ⟨l1, l2, l3, l4, l5⟩ := wordO_len gk
          have big : ∀ {k}, k ≤ 100 → k ≤ sizeLine := fun h => by
            rw [sizeLine_eq]
            omega
          have hb := h3 y (List.mem_of_getElem? hy)
          obtain ⟨b, x, ek, _, _⟩ := gk
          rw [ek] at hb l1 l2 l3 l4 l5 ⊢
          refine ⟨[some (.ref a), some (.str b), some (.str x)], rfl, fun H1 e Q k => ⟨y.2, _, rfl, SqT.of (e _ _ hb), rfl, _, _, rfl, _, _, rfl, rfl, k⟩, fun H1 e Q k => ?_⟩
          refine ⟨_, rfl, .inl ⟨b, rfl, big (by rw [nmK_0] at l4; omega), b, rfl, big (by rw [nmK_0] at l1; omega), " ", rfl, big (by rw [nmK_0] at l2; omega), _, rfl, .inl ⟨x, rfl, big (by rw [nmK_1] at l5; omega), x, rfl, big (show (Str.empty ++ b ++ " " ++ x).length ≤ 100 from Nat.le_trans l3 (by decide)), k _ _ (Ex.refl _) rfl⟩⟩⟩
        · obtain ⟨k, _, rfl⟩ := List.mem_map.mp hP
          exact stays_is _
      intro v H1 e1 ⟨D, ws, ev, hD, _, hs⟩
      subst ev
      have ews : ws = (R.map wordO).map V.str := by
        rw [List.map_map]
        refine all2_is (H := H1) ?_
        rw [List.map_map]
        exact hs
      subst ews
      refine ⟨" ; ", D, R.map wordO, rfl, rfl, .inl (SqL.of hD), ?_, by rw [← line]; exact q _ e1⟩
      have w := wordsO_len fine
      rw [List.length_map]
      show _ + R.length * 3 ≤ 16777216
      omega
end
/-- a list of just these pairs -/
def keysL (R : List (List Key)) : PR := ⟨fun v H => ∃ (a : Addr) (ks : List (List Key × Addr)), v = .ref a ∧ H a = some (.lst (refs ks)) ∧ Lie H ks ∧ ks.map Prod.fst = R, fun _ _ _ e ⟨a, ks, h1, h2, h3, h4⟩ => ⟨a, ks, h1, e _ _ h2, h3.ex e, h4⟩⟩
def ordP (C : Addr) (R : List (List Key)) : PR := ⟨fun v H => ∃ b, v = .ref b ∧ OrdAt C H b R, fun _ _ _ e ⟨b, h1, h2⟩ => ⟨b, h1, h2.mono e⟩⟩
/-- list(order) -/
theorem g_listO {K : PySem.W.Frag} {C : Addr} {σ : L2.St} {H : Hp} {te : TE} {R : List (List Key)} (h : EvP.Gives te σ H (ordP C R)) (hz : R.length ≤ 1000) : EvP.Gives (tCB (Own.rListIt K C (spOIter C) (spOLen C)) (tCons te tNil)) σ H (keysL R) := fun H1 e Q q =>
  h H1 e _ fun v H2 e2 ⟨b, ev, sb⟩ => by
    subst ev
    refine ⟨.ref b, rfl, ord_ins sb, fun p hp n => ?_⟩
    have e3 := Ex.new (o := HO.lst []) hp
    have s3 := sb.mono e3
    refine ⟨b, R, rfl, s3, fun r ks it hr lie ek hit hn => ⟨it, r, refs ks, rfl, upd_same, hn, ord_ins (s3.mono (Ex.new hit)), ?_, ?_⟩⟩
    · rw [upd_ne (ne_of_none upd_same hit)]
      exact upd_same
    · rw [ItX.dropH_upd hit]
      have rl : (refs ks).length = R.length := by rw [List.length_map, ← ek, List.length_map]
      refine ⟨b, R, rfl, s3, R.length, rfl, by omega, upd_same, ?_, hr.sq, by omega, q _ _ (e2.trans fun b' o' hb' => ?_) ⟨p, ks, rfl, upd_same, fun y hy => ?_, ek⟩⟩
      · first
          | exact hr.ne upd_same fun _ _ z => nomatch z
          | exact (hr.ne upd_same fun _ _ z => nomatch z).symm
      · rw [upd_ne (ne_of_none hb' hp), upd_ne (ne_of_none hb' hp)]
        exact hb'
      · have hy := lie y hy
        rw [upd_ne (ne_of hy upd_same fun z => nomatch z)]
        exact hy
end Od

set_option Elab.async false
set_option linter.all false
set_option maxRecDepth 100000
set_option maxHeartbeats 4000000
namespace Cm
open PySem PySem.Spec PyProof.Rows L2 EvP
section
variable {K : PySem.W.Frag} {σ : L2.St} {H : Hp} {te : TE} {ta : TA} {wi : TI} {xs : List V} {vs : List Nat} {i : Nat} {tt : TT}
/-- a comprehension whose test adds objects -/
theorem compT (keep : V → Bool) (φ : V → PR) (hw : Walks wi σ H xs) (hz : xs.length ≤ 1000) (wp : ∀ x, wipe ((wipe σ vs).set i (some x)) vs = wipe σ vs)
    (ht : ∀ x ∈ xs, Tst tt ((wipe σ vs).set i (some x)) H (keep x)) (he : ∀ x ∈ xs, keep x = true → Gives te ((wipe σ vs).set i (some x)) H (φ x)) (st : ∀ x ∈ xs, Stays (φ x)) :
    Gives (tLc wi (gName i) tt te vs) σ H (lst H ((xs.filter keep).map φ)) := fun H1 e1 Q q => by
  refine hw H1 e1 _ fun J H2 e2 ⟨G, w, g⟩ D hD => ?_
  have mem : ∀ (j : Nat) (P : PR), P ∈ ((xs.take j).filter keep).map φ → Stays P := fun j P hP => by
    obtain ⟨x, hx, rfl⟩ := List.mem_map.mp hP
    exact st x (List.mem_of_mem_take (List.mem_filter.mp hx).1)
  have len : ∀ j, (((xs.take j).filter keep).map φ).length ≤ 1000 := fun j => by
    rw [List.length_map]
    exact Nat.le_trans (List.length_filter_le _ _) (by rw [List.length_take]; omega)
  refine lc_it w (fun j H' => ∃ acc, H' D = some (.lst acc) ∧ Ex H2 H' ∧ All2 H' (((xs.take j).filter keep).map φ) acc) ⟨[], upd_same, Ex.new hD, .nil⟩ (fun j H' _ ⟨_, _, e3, _⟩ => g _ e3) (fun j x H' H'' hj ⟨acc, a1, a2, a3⟩ y => ?_) (fun H' ⟨acc, a1, a2, a3⟩ => ?_)
  · obtain ⟨rfl, hx⟩ := y
    have mx := List.mem_of_getElem? hx
    have eH := (e1.trans e2).trans a2
    have tk : xs.take (j + 1) = xs.take j ++ [x] := by
      rw [List.take_add_one, hx]
      rfl
    refine ⟨wp x, ht x mx _ eH _ fun H3 e3 => ?_⟩
    have a1 := e3 _ _ a1
    have a2 := a2.trans e3
    have a3 := a3.ex e3
    have eH := eH.trans e3
    cases kx : keep x with
    | false =>
      refine ⟨acc, a1, a2, ?_⟩
      rw [tk, List.filter_append, List.filter_cons, kx]
      simpa using a3
    | true =>
      refine he x mx kx _ eH _ fun v H4 e4 hv => ⟨acc, e4 _ _ a1, ?_, acc ++ [v], upd_same, fun b o hb => ?_, ?_⟩
      · have := a3.length
        have := len j
        rw [sizeLine_eq]
        omega
      · rw [upd_ne (ne_of_none hb hD)]
        exact e4 _ _ (a2 _ _ hb)
      · rw [tk, List.filter_append, List.filter_cons, kx, List.map_append]
        refine all2_stays (e4 _ _ a1) (fun P hP => ?_) (all2_snoc (a3.ex e4) hv)
        rcases List.mem_append.mp hP with hP | hP
        · exact mem j P hP
        · rw [List.mem_singleton.mp hP]
          exact st x mx
  · rw [List.take_length] at a3
    exact q _ _ (e2.trans a2) ⟨D, acc, rfl, a1, (e1.trans e2).back hD, a3⟩
/-- range(0, n) -/
theorem walks_rng {n : Nat} (h : ∀ H1, Ex H H1 → ∀ R : It → Hp → Prop, (∀ H2, Ex H1 H2 → R (Itr 0 n) H2) → wi σ H1 R) : Walks wi σ H ((List.range n).map fun i => V.int (i : Nat)) := fun H1 e R r =>
  h H1 e R fun H2 e2 => r _ _ e2 ⟨fun _ => True, by
    rw [List.length_map, List.length_range]
    exact Walk.mono (walk_range (lo := 0) (n := n)) (fun _ _ => trivial) fun i H x H' hi _ y => ⟨y.1, by
      rw [List.getElem?_map, List.getElem?_range hi, y.2]
      show some (V.int (i : Nat)) = some (V.int (0 + (i : Nat)))
      rw [Int.zero_add]⟩, fun _ _ => trivial⟩
/-- range(0, .., c) -/
theorem walks_rngC {n : Nat} {c : Int} (h : ∀ H1, Ex H H1 → ∀ R : It → Hp → Prop, (∀ H2, Ex H1 H2 → R (Itc 0 c n) H2) → wi σ H1 R) : Walks wi σ H ((List.range n).map fun i => V.int ((i : Nat) * c)) := fun H1 e R r =>
  h H1 e R fun H2 e2 => r _ _ e2 ⟨fun _ => True, by
    rw [List.length_map, List.length_range]
    exact Walk.mono (walk_rangeC (lo := 0) (c := c) (n := n)) (fun _ _ => trivial) fun i H x H' hi _ y => ⟨y.1, by
      rw [List.getElem?_map, List.getElem?_range hi, y.2]
      show some (V.int ((i : Nat) * c)) = some (V.int (0 + (i : Nat) * c))
      rw [Int.zero_add]⟩, fun _ _ => trivial⟩
end
end Cm

set_option Elab.async false
set_option linter.all false
set_option maxRecDepth 100000
set_option maxHeartbeats 4000000
/-! The truth of an own instance by its __len__. -/
namespace Own
open PySem PySem.Spec PyProof.Rows L2
section
variable {X : Cx} {C f : Addr} {fd : FuncData} {k : Nat} {ps : List Str} {sp : Sp}
def rTruOwn (C : Addr) (sp : Sp) : V → Hp → (Bool → Hp → Prop) → Prop := fun x H Q => Ins H x C ∧ sp [x] H (fun v H' => ∃ n : Nat, v = .int n ∧ n < 1000000 ∧ Q ((n : Int) != 0) H') E0
theorem tru_own (hb : PySem.W.findIn X.K (.ref C) "__bool__" = some none) (M : Mt X.prog X.w X.K X.mg X.base C "__len__" k ps sp f fd) (hr : Room (k + 1) X.A) : TruR X (rTruOwn C sp) := by
  intro pins s σ H x v Q I rx h
  obtain ⟨⟨a, dx, fs, rfl, ha⟩, h⟩ := h
  cases rx
  obtain ⟨ox, od, J⟩ := ins_at I ha
  unfold truthy
  refine wpAny_bind (m := callSpecial? (.ref a) (Str.ofString "__bool__")) (wpAny_bind (wpAny_bind (J.type.here ((PySem.W.looks_findIn I.kIn hb).here (wpAny_pure ?_)))))
  refine wpAny_bind (wpAny_bind (J.type.here ((PySem.W.looks_findIn I.kIn M.at_).here ?_)))
  show wpAny _ _ (runValue (.builtin "len" ⟨[.ref a], []⟩) >>= _) _ _ _
  refine wpAny_bind (wpAny_runValue (codeAny_builtin PySem.entry_len ?_))
  rw [Around.under_plainId PySem.plain_len _]
  unfold Builtin.«len»
  refine wpAny_bind (m := oneArg "len" _) (wpAny_pure ?_)
  refine wpAny_bind (m := callSpecial? (.ref a) (Str.ofString "__len__")) (PySem.W.special_fn I.kIn J M.at_ (beq_iff_eq.mp M.fn) (wpAny_mono (run_at M.ok M.b rfl hr.in1 I (.cons (show RelV (V.ref a) (Value.ref a) from rfl) .nil) h) (fun r s' z => ?_) fun _ _ z => z))
  obtain ⟨v', H', I', rv, n, rfl, hn, q⟩ := z
  obtain ⟨t, rfl⟩ := rv
  refine wpAny_bind (wpAny_holding (wpAny_pure ?_))
  refine wpAny_bind (wpAny_letGo ?_)
  show wpAny _ _ (if (n : Int) < 0 then _ else _) _ _ _
  rw [if_neg (by omega)]
  show wpAny _ _ (if (n : Int) ≥ 2 ^ 63 then _ else _) _ _ _
  rw [if_neg (by omega)]
  refine wpAny_bind (wpAny_mkInt (wpAny_pure ?_))
  exact wpAny_pure ⟨H', I'.tok _, q⟩
end
end Own

set_option Elab.async false
set_option linter.all false
set_option maxRecDepth 100000
set_option maxHeartbeats 4000000
/-! x != y of own instances, where the class has __eq__ and no __ne__. -/
namespace Own
open PySem PySem.Spec PySem.Calls PyProof.Rows PySem.W L2
section
variable {X : Cx} {C f : Addr} {fd : FuncData} {k : Nat} {ps : List Str} {sp : Sp}
theorem ifBound_b {M : Model} {A : Around} {E : Value → Shared → Prop} {s : Shared} {K : Frag} {x C : Addr} {ox : Obj} {od : Option Obj} {name : Str} {id : String} {args : List Value} {Q : Option Value → Shared → Prop} (kin : K.In s.heap) (J : InstAt s.heap x ox C od)
    (hs : findIn K (.ref C) name = some (some (.builtin id))) (hb : ∀ self, bindSpecial (.builtin id) self = pure (.builtin id, [self])) (h : wpAny M A (call (.builtin id) (.ref x :: args)) (fun v => Q (some v)) E s) : wpAny M A (callSpecialIfBound? (.ref x) name args) Q E s := by
  simp only [callSpecialIfBound?, bindSpecialIfBound?]
  refine wpAny_holding (wpAny_bind (wpAny_bind (wpAny_bind (J.type.here ((looks_findIn kin hs).here ?_)))))
  refine wpAny_bind (wpAny_askSetting (wpAny_ite ?_))
  have fin : wpAny M A (call (.builtin id) ([.ref x] ++ args) >>= fun v => pure (some v)) Q E s := wpAny_bind (wpAny_mono h (fun v s' y => wpAny_pure y) fun _ _ y => y)
  split
  · exact wpAny_bind ((Looks.of_pure (hb _)).here (wpAny_pure (by exact fin)))
  · exact wpAny_tryCatch (wpAny_bind ((Looks.of_pure (hb _)).here (wpAny_pure (by exact fin))))
/-- x != y: the class's __eq__, turned about -/
def rNeOwn (C : Addr) (sp : Sp) : R2 := fun x y H Q => Ins H x C ∧ Ins H y C ∧ sp [x, y] H (fun v H' => ∃ b, v = .bl b ∧ Q (.bl (!b)) H') E0
open Builtin in
theorem ne_own (M : Mt X.prog X.w X.K X.mg X.base C "__eq__" k ps sp f fd) (hne : findIn X.K (.ref C) "__ne__" = some (some (.builtin "object.__ne__"))) (hm : mroIn X.K C (.type "object") = some true) (hr : Room (k + 1) X.A) : OpR X (compareOp .NotEq) (rNeOwn C sp) := by
  intro pins s σ H x y v u Q I rx ry h
  obtain ⟨⟨a, dx, fs, rfl, ha⟩, ⟨b, dy, gs, rfl, hb⟩, h⟩ := h
  cases rx
  cases ry
  obtain ⟨ox, od, J⟩ := ins_at I ha
  obtain ⟨oy, oe, L⟩ := ins_at I hb
  have hu : X.A.units < cLine := by have := hr.un; omega
  have hu1 : X.A.in1.units < cLine := by have := hr.in1.un; omega
  show wpAny _ _ (richCompare .NotEq (.ref a) (.ref b)) _ _ _
  have one : wpAny (model X.prog X.w) X.A (tryCompare (.ref a) (cmpInfo .NotEq).2.1 (.ref b)) (fun r s' => ∃ v, r = some v ∧ EP X pins σ Q v s') X.xe s := by
    unfold tryCompare
    refine wpAny_bind (m := callSpecialIfBound? (.ref a) (Str.ofString "__ne__") [.ref b]) (ifBound_b I.kIn J hne PySem.F.slot_object_ne.bind ?_)
    refine wpAny_call (codeAny_call_builtin PySem.F.slot_object_ne.plain PySem.F.entry_object_ne (check_slot (i := "object.__ne__") (owner := "object") (n := "__ne__") (by decide +kernel) (by decide +kernel) (J.type.andThen (looks_mroIn I.kIn hm)) (PySem.F.args_object_ne_2 _ _) ?_))
    unfold Builtin.«object.__ne__»
    refine wpAny_bind (m := slotArgs "__ne__" 1 _) (wpAny_pure ?_)
    refine wpAny_bind (m := cRoomFor _ _) (wpAny_cRoomFor hu1 ?_)
    refine wpAny_bind (m := callSpecialIfBound? (.ref a) (Str.ofString "__eq__") [.ref b]) (ifBound_K I.kIn J M.at_ M.fn (wpAny_mono (run_at M.ok M.b rfl hr.in1 I (.cons (show RelV (V.ref a) (Value.ref a) from rfl) (.cons (show RelV (V.ref b) (Value.ref b) from rfl) .nil)) h) (fun r s' z => ?_) fun _ _ z => z))
    obtain ⟨v', H', I', rv, c, rfl, q⟩ := z
    obtain rfl : r = Value.bool c := rv
    refine wpAny_bind (wpAny_truthy_bool (wpAny_pure ?_))
    exact wpAny_pure ⟨_, rfl, .bl (!c), H', I', rfl, q⟩
  unfold richCompare
  simp only [oneThing_ref]
  refine wpAny_holding (wpAny_bind (wpAny_cRoomFor hu ?_))
  refine wpAny_bind (J.type.here (wpAny_bind (L.type.here ?_)))
  have same : ((Value.ref C) != (Value.ref C)) = false := by simp
  rw [same]
  refine wpAny_bind (wpAny_pure ?_)
  simp only [Bool.false_eq_true, if_false]
  refine wpAny_bind (wpAny_mono one (fun r s' z => ?_) fun _ _ e => e)
  obtain ⟨v, rfl, hq⟩ := z
  exact wpAny_pure hq
end
end Own

set_option Elab.async false
set_option linter.all false
set_option maxRecDepth 100000
set_option maxHeartbeats 4000000
/-! x * n and n * x, x an own instance and n an int. -/
namespace Own
open PySem PySem.Spec PySem.Calls PyProof.Rows PySem.W L2
open AutoSeq1 (wpAny_loadPart')
section
variable {X : Cx} {C f g : Addr} {fd : FuncData} {k : Nat} {ps : List Str} {sp : Sp}
/-- x op n -/
def rOwnI (C : Addr) (sp : Sp) : R2 := fun x y H Q => Ins H x C ∧ (∃ i, y = .int i) ∧ sp [x, y] H Q E0
theorem op_ownI {op : Operator} {fo ro rc : Option Value} (M : Mt X.prog X.w X.K X.mg X.base C (PySem.dunder op.info.2) k ps sp f fd) (first : selfFirst X.K C = true) (hr' : findIn X.K (.ref C) (dunderR op.info.2) = some rc) (hp : rc = none ∨ ∃ g : Addr, rc = some (.ref g))
    (h1 : findIn X.K (.type "int") (PySem.dunder op.info.2) = some fo) (h2 : findIn X.K (.type "int") (dunderR op.info.2) = some ro) (hsub : subIn X.K (.type "int") (.ref C) = some false) (hr : Room k X.A) : OpR X (binaryOp op) (rOwnI C sp) := by
  intro pins s σ H x y v u Q I rx ry h
  obtain ⟨⟨a, dx, fs, rfl, ha⟩, ⟨i, rfl⟩, h⟩ := h
  cases rx
  have ry' := ry
  obtain ⟨t, rfl⟩ := ry
  obtain ⟨ox, od, J⟩ := ins_at I ha
  obtain ⟨m, fr⟩ := I.fr
  exact ksp_binT fr I.ok.mod.kin J (rfl : typeOf (.int i t) = pure (.type "int")) first M.at_ M.fn hr' hp h1 h2 hsub (wpAny_mono (run_at M.ok M.b rfl hr I (.cons (show RelV (V.ref a) (Value.ref a) from rfl) (.cons ry' .nil)) h) (fun _ _ z => cmp_back z) fun _ _ z => z)
theorem int_mul_declines (b : Int) (u : Tok) (l D dx : Addr) :
    Meets (Builtin.«int.__mul__» ⟨[.int b u, .ref l], []⟩) (fun _ R s => s.heap.get? l = some (instObj D dx) ∧ R (.ok (.ret .notImplemented)) s) :=
  .of_wp fun prog w A R s h => by
    obtain ⟨hp, g, d, tk, os⟩ := s
    obtain ⟨hl, h⟩ := h
    wp_walk using wpAny_loadPart' hl, wpAny_load hl
    exact ⟨_, rfl, h⟩
/-- n * x, by the class's __rmul__ -/
def rROwn (C : Addr) (sp : Sp) : R2 := fun x y H Q => (∃ i, x = .int i) ∧ Ins H y C ∧ sp [y, x] H Q E0
theorem op_rmul (M : Mt X.prog X.w X.K X.mg X.base C "__rmul__" k ps sp f fd) (first : selfFirst X.K C = true) (hs : findIn X.K (.ref C) "__mul__" = some (some (.ref g))) (hsub : subIn X.K (.ref C) (.type "int") = some false) (hr : Room k X.A) : OpR X (binaryOp .Mult) (rROwn C sp) := by
  intro pins s σ H x y v u Q I rx ry h
  obtain ⟨⟨i, rfl⟩, ⟨a, dx, fs, rfl, ha⟩, h⟩ := h
  have rx' := rx
  obtain ⟨t, rfl⟩ := rx
  cases ry
  obtain ⟨mA, O, _⟩ := ins_get I.hok ha
  have ob := O.1
  obtain ⟨ox, od, J⟩ := ins_at I ha
  obtain ⟨cd, rest, hcd, hm⟩ := ksp_first first
  have kin := I.kIn
  have one : wpAny (model X.prog X.w) X.A (tryMethod (.ref a) "__rmul__" (.int i t)) (fun r s' => ∃ v, r = some v ∧ EP X pins σ Q v s') X.xe s :=
    ksp_try kin J M.at_ M.fn (wpAny_mono (run_at M.ok M.b rfl hr I (.cons (show RelV (V.ref a) (Value.ref a) from rfl) (.cons rx' .nil)) h) (fun _ _ z => cmp_back z) fun _ _ z => z)
  obtain ⟨hh, gg, d, tt, os⟩ := s
  have L1 : Looks (model X.prog X.w) hh (typeOf (.int i t)) (.type "int") := Looks.of_pure rfl
  have L2 : Looks (model X.prog X.w) hh (typeOf (.ref a)) (.ref C) := J.type
  have L3 : Looks (model X.prog X.w) hh (fillsNumberSlot (.type "int") "mul") true := Looks.of_pure F.fills_int_mul
  have L4 : Looks (model X.prog X.w) hh (fillsNumberSlot (.ref C) "mul") true := fills_K kin hcd hm hs
  have L5 : Looks (model X.prog X.w) hh (isSubtype (.ref C) (.type "int")) false := looks_subIn kin hsub
  have L7 : Looks (model X.prog X.w) hh (numberSlotInPython (.type "int") "mul") false := Looks.of_pure rfl
  have hne : (Value.type "int" == Value.ref C) = false := rfl
  have dec : wpAny (model X.prog X.w) X.A (tryMethod (.int i t) (dunder "mul") (.ref a)) (fun r s' => r = none ∧ s' = ⟨hh, gg, d, tt, os⟩) X.xe ⟨hh, gg, d, tt, os⟩ :=
    wpAny_tryMethod_declines (typeIs_int _ i t) F.slot_int_mul (call_meets F.slot_int_mul (typeIs_int _ i t) F.entry_int_mul (F.args_int_mul_2 _ _) (int_mul_declines i t a C dx) ⟨ob, rfl, rfl, rfl⟩)
  show wpAny _ _ (binaryOp .Mult (.int i t) (.ref a)) _ _ _
  simp only [binaryOp, Operator.info]
  refine wpAny_holding (wpAny_bind ?_)
  unfold binaryOp1
  refine wpAny_bind (L1.at (wpAny_bind (L2.at (wpAny_bind (L3.at ?_)))))
  simp only [hne, Bool.false_eq_true, if_false]
  ksp_lk
  refine wpAny_mono dec (fun r s' hr' => ?_) fun _ _ e => e
  obtain ⟨rfl, rfl⟩ := hr'
  ksp_lk
  refine wpAny_mono one (fun r s' hr' => ?_) fun _ _ e => e
  obtain ⟨v, rfl, hq⟩ := hr'
  ksp_lk
  exact hq
end
end Own

set_option Elab.async false
set_option linter.all false
set_option maxRecDepth 100000
set_option maxHeartbeats 4000000
/-! x op= y, where the class of x has no sign in place. -/
namespace Own
open PySem PySem.Spec PySem.Calls PyProof.Rows PySem.W L2
section
variable {X : Cx} {C f g : Addr} {fd : FuncData} {k : Nat} {ps : List Str} {sp : Sp}
/-- no class above has the sign in place -/
structure NoIn (K : Frag) (C : Addr) (nm : String) : Prop where
  cls : ∃ cd, clsIn K C = some cd ∧ cd.mro = [.ref C, .type "object"]
  here : findIn K (.ref C) (dunderI nm) = some none
  top : findIn K (.type "object") (dunderI nm) = some none
theorem no_inplace {M : Model} {h : Heap} {K : Frag} {nm : String} {add : Bool} (X : K.In h) (n : NoIn K C nm) : Looks M h (fillsInplaceSlot (.ref C) nm add) false := by
  intro A Q E s k q
  obtain ⟨cd, hc, hm⟩ := n.cls
  have Lm : Looks M h (mroOf (.ref C)) cd.mro := (looks_clsIn X hc).andThen (f := fun cd => pure cd.mro) .now
  have Lm' := Lm.keeps k
  obtain ⟨hh, g, d, tt, os⟩ := s
  have X' : K.In hh := X.keeps k
  have L1 : Looks M hh (typeLookup (.ref C) (dunderI nm)) none := looks_findIn X' n.here
  have L2 : Looks M hh (typeLookup (.type "object") (dunderI nm)) none := looks_findIn X' n.top
  unfold fillsInplaceSlot
  refine wpAny_bind (Lm'.at ?_)
  rw [hm, List.anyM_cons]
  refine wpAny_bind (wpAny_bind (L1.at ?_))
  refine wpAny_pure ?_
  simp only [Bool.false_eq_true, if_false]
  rw [List.anyM_cons]
  refine wpAny_bind (wpAny_bind (L2.at ?_))
  refine wpAny_pure ?_
  simp only [Bool.false_eq_true, if_false, List.anyM_nil]
  exact wpAny_pure q
def tIpOwn (C : Addr) (sp : Sp) : TIp := fun x y H Q => Ins H x C ∧ Ins H y C ∧ sp [x, y] H Q E0
theorem ip_own {op : Operator} (M : Mt X.prog X.w X.K X.mg X.base C (PySem.dunder op.info.2) k ps sp f fd) (first : selfFirst X.K C = true) (n : NoIn X.K C op.info.2) (hr : Room k X.A) : PIp X op (tIpOwn C sp) := by
  intro pins s σ H x y v u Q I rx ry h
  obtain ⟨⟨a, dx, fs, rfl, ha⟩, ⟨b, dy, gs, rfl, hb⟩, h⟩ := h
  cases rx
  cases ry
  obtain ⟨ox, od, J⟩ := ins_at I ha
  obtain ⟨oy, oe, L⟩ := ins_at I hb
  obtain ⟨cd, rest, hcd, hm⟩ := ksp_first first
  have kin := I.kIn
  have run := wpAny_mono (run_at M.ok M.b rfl hr I (.cons (show RelV (V.ref a) (Value.ref a) from rfl) (.cons (show RelV (V.ref b) (Value.ref b) from rfl) .nil)) h) (fun _ _ z => cmp_back z) fun _ _ z => z
  unfold inplaceOp
  refine wpAny_holding (wpAny_bind (J.type.here (wpAny_bind ((no_inplace kin n).here ?_))))
  simp only [Bool.false_eq_true, if_false]
  refine wpAny_bind ?_
  unfold binaryOp1
  refine wpAny_bind (J.type.here (wpAny_bind (L.type.here (wpAny_bind ((fills_K kin hcd hm M.at_).here ?_)))))
  simp only [beq_self_eq_true, if_true]
  refine wpAny_bind (wpAny_pure ?_)
  simp only [Bool.and_false, Bool.false_eq_true, if_false, Bool.false_and]
  refine wpAny_bind (wpAny_pure ?_)
  simp only [Bool.false_eq_true, if_false]
  refine wpAny_bind (m := tryMethod (.ref a) _ (.ref b)) ?_
  unfold tryMethod
  refine wpAny_bind (special_fn kin J M.at_ (beq_iff_eq.mp M.fn) (wpAny_mono run (fun v s' hv => ?_) fun _ _ e => e))
  cases v <;> first | exact hv.elim | exact wpAny_pure (wpAny_pure (wpAny_pure hv))
def tIpOwnI (C : Addr) (sp : Sp) : TIp := fun x y H Q => Ins H x C ∧ (∃ i, y = .int i) ∧ sp [x, y] H Q E0
theorem ip_ownI {op : Operator} {fo ro rc : Option Value} (M : Mt X.prog X.w X.K X.mg X.base C (PySem.dunder op.info.2) k ps sp f fd) (first : selfFirst X.K C = true) (n : NoIn X.K C op.info.2) (hr' : findIn X.K (.ref C) (dunderR op.info.2) = some rc) (hp : rc = none ∨ ∃ g : Addr, rc = some (.ref g))
    (h1 : findIn X.K (.type "int") (PySem.dunder op.info.2) = some fo) (h2 : findIn X.K (.type "int") (dunderR op.info.2) = some ro) (hsub : subIn X.K (.type "int") (.ref C) = some false) (hr : Room k X.A) : PIp X op (tIpOwnI C sp) := by
  intro pins s σ H x y v u Q I rx ry h
  obtain ⟨⟨a, dx, fs, rfl, ha⟩, ⟨i, rfl⟩, h⟩ := h
  cases rx
  have ry' := ry
  obtain ⟨t, rfl⟩ := ry
  obtain ⟨ox, od, J⟩ := ins_at I ha
  obtain ⟨cd, rest, hcd, hm⟩ := ksp_first first
  have kin := I.kIn
  have one : wpAny (model X.prog X.w) X.A (tryMethod (.ref a) (PySem.dunder op.info.2) (.int i t)) (fun r s' => ∃ v, r = some v ∧ EP X pins σ Q v s') X.xe s :=
    ksp_try kin J M.at_ M.fn (wpAny_mono (run_at M.ok M.b rfl hr I (.cons (show RelV (V.ref a) (Value.ref a) from rfl) (.cons ry' .nil)) h) (fun _ _ z => cmp_back z) fun _ _ z => z)
  have Lm : Looks (model X.prog X.w) s.heap (fillsInplaceSlot (.ref C) op.info.2 (op == .Add)) false := no_inplace kin n
  have at_ := M.at_
  obtain ⟨hh, gg, d, tt, os⟩ := s
  have L1 : Looks (model X.prog X.w) hh (typeOf (.ref a)) (.ref C) := J.type
  have L2 : Looks (model X.prog X.w) hh (typeOf (.int i t)) (.type "int") := Looks.of_pure rfl
  have L3 : Looks (model X.prog X.w) hh (fillsNumberSlot (.ref C) op.info.2) true := fills_K kin hcd hm at_
  have L4 : Looks (model X.prog X.w) hh (fillsNumberSlot (.type "int") op.info.2) ((fo.isSome && !isSeqSlot fo) || (ro.isSome && !isSeqSlot ro)) := ksp_fillsT kin h1 h2
  have L5 : Looks (model X.prog X.w) hh (isSubtype (.type "int") (.ref C)) false := looks_subIn kin hsub
  have L6 : Looks (model X.prog X.w) hh (numberSlotInPython (.ref C) op.info.2) true := ksp_inPy kin at_ hr' hp
  have L7 : Looks (model X.prog X.w) hh (numberSlotInPython (.type "int") op.info.2) false := Looks.of_pure rfl
  have L8 : Looks (model X.prog X.w) hh (typeLookup (.type "int") (dunderR op.info.2)) ro := looks_findIn kin h2
  generalize ((fo.isSome && !isSeqSlot fo) || (ro.isSome && !isSeqSlot ro)) = right at L4
  have hne : (Value.ref C == Value.type "int") = false := rfl
  unfold inplaceOp
  refine wpAny_holding (wpAny_bind (L1.at (wpAny_bind (Lm.at ?_))))
  simp only [Bool.false_eq_true, if_false]
  refine wpAny_bind ?_
  unfold binaryOp1
  refine wpAny_bind (L1.at (wpAny_bind (L2.at (wpAny_bind (L3.at ?_)))))
  simp only [hne, Bool.false_eq_true, if_false]
  cases right with
  | false =>
    ksp_lk
    refine wpAny_mono one (fun r s' hr' => ?_) fun _ _ e => e
    obtain ⟨v, rfl, hq⟩ := hr'
    ksp_lk
    exact hq
  | true =>
    ksp_lk
    refine wpAny_mono one (fun r s' hr' => ?_) fun _ _ e => e
    obtain ⟨v, rfl, hq⟩ := hr'
    ksp_lk
    exact hq
end
end Own

set_option Elab.async false
set_option linter.all false
set_option maxRecDepth 100000
set_option maxHeartbeats 4000000
/-! x op y, where the class's def may raise. -/
namespace Own
open PySem PySem.Spec PySem.Calls PyProof.Rows PySem.W L2
/-- as Mt, for a def that may raise -/
structure MtX (P : Program) (w : World) (K : PySem.W.Frag) (mg : Str → Option Value) (base : Heap) (C : Addr) (m : Str) (k : Nat) (ps : List Str) (sp : Sp) (f : Addr) (fd : FuncData) : Prop where
  at_ : PySem.W.findIn K (.ref C) m = some (some (.ref f))
  fn : PySem.W.isFn K (.ref f) = true
  ok : FnOk P w K mg base (L2.CX P w) k f fd ps sp
  b : Binds K fd ps []
section
variable {X : Cx} {pins : List (Addr × Obj)} {σ : L2.St} {H : Hp} {s : Shared} {C f : Addr} {fd : FuncData} {k : Nat} {ps : List Str} {sp : Sp} {E : XK}
theorem run_atX {vs : List V} {us : List Value} {Q : VK} (F : FnOk X.prog X.w X.K X.mg X.base (L2.CX X.prog X.w) k f fd ps sp) (b : Binds X.K fd ps []) (hr : Room k X.A) (hx : PassesAt (L2.CX X.prog X.w) X σ E) (I : Inv X pins σ H s) (r : Vals vs us) (h : sp vs H Q E) :
    wpAny (model X.prog X.w) X.A (call (.ref f) us) (EP X pins σ Q) X.xe s := run_fnS (E := fun _ => E) F hr b hx I r h
theorem pass_none (σ : L2.St) : PassesAt (L2.CX X.prog X.w) X σ E0 := fun _ _ _ _ _ I c => passL _ _ _ _ _ _ I c
/-- x op y: what the def lets out is E's business -/
def rOwnX (C : Addr) (sp : Sp) (E : XK) : R2 := fun x y H Q => Ins H x C ∧ Ins H y C ∧ sp [x, y] H Q E
theorem op_ownX {op : Operator} (M : MtX X.prog X.w X.K X.mg X.base C (PySem.dunder op.info.2) k ps sp f fd) (first : PySem.W.selfFirst X.K C = true) (hr : Room k X.A) (hx : ∀ σ, PassesAt (L2.CX X.prog X.w) X σ E) : OpR X (binaryOp op) (rOwnX C sp E) := by
  intro pins s σ H x y v u Q I rx ry h
  obtain ⟨⟨a, dx, fs, rfl, ha⟩, ⟨b, dy, gs, rfl, hb⟩, h⟩ := h
  cases rx
  cases ry
  obtain ⟨ox, od, J⟩ := ins_at I ha
  obtain ⟨oy, oe, L⟩ := ins_at I hb
  obtain ⟨m, fr⟩ := I.fr
  exact PySem.W.binop_K fr I.ok.mod.kin J L.type first M.at_ M.fn (wpAny_mono (run_atX M.ok M.b hr (hx σ) I (.cons (show RelV (V.ref a) (Value.ref a) from rfl) (.cons (show RelV (V.ref b) (Value.ref b) from rfl) .nil)) h) (fun _ _ z => cmp_back z) fun _ _ z => z)
theorem op_ownX0 {op : Operator} (M : MtX X.prog X.w X.K X.mg X.base C (PySem.dunder op.info.2) k ps sp f fd) (first : PySem.W.selfFirst X.K C = true) (hr : Room k X.A) : OpR X (binaryOp op) (rOwnX C sp E0) := op_ownX M first hr pass_none
/-- x op= y, without a sign in place -/
def tIpOwnX (C : Addr) (sp : Sp) (E : XK) : TIp := fun x y H Q => Ins H x C ∧ Ins H y C ∧ sp [x, y] H Q E
theorem ip_ownX {op : Operator} (M : MtX X.prog X.w X.K X.mg X.base C (PySem.dunder op.info.2) k ps sp f fd) (first : selfFirst X.K C = true) (n : NoIn X.K C op.info.2) (hr : Room k X.A) (hx : ∀ σ, PassesAt (L2.CX X.prog X.w) X σ E) : PIp X op (tIpOwnX C sp E) := by
  intro pins s σ H x y v u Q I rx ry h
  obtain ⟨⟨a, dx, fs, rfl, ha⟩, ⟨b, dy, gs, rfl, hb⟩, h⟩ := h
  cases rx
  cases ry
  obtain ⟨ox, od, J⟩ := ins_at I ha
  obtain ⟨oy, oe, L⟩ := ins_at I hb
  obtain ⟨cd, rest, hcd, hm⟩ := ksp_first first
  have kin := I.kIn
  have run := wpAny_mono (run_atX M.ok M.b hr (hx σ) I (.cons (show RelV (V.ref a) (Value.ref a) from rfl) (.cons (show RelV (V.ref b) (Value.ref b) from rfl) .nil)) h) (fun _ _ z => cmp_back z) fun _ _ z => z
  unfold inplaceOp
  refine wpAny_holding (wpAny_bind (J.type.here (wpAny_bind ((no_inplace kin n).here ?_))))
  simp only [Bool.false_eq_true, if_false]
  refine wpAny_bind ?_
  unfold binaryOp1
  refine wpAny_bind (J.type.here (wpAny_bind (L.type.here (wpAny_bind ((fills_K kin hcd hm M.at_).here ?_)))))
  simp only [beq_self_eq_true, if_true]
  refine wpAny_bind (wpAny_pure ?_)
  simp only [Bool.and_false, Bool.false_eq_true, if_false, Bool.false_and]
  refine wpAny_bind (wpAny_pure ?_)
  simp only [Bool.false_eq_true, if_false]
  refine wpAny_bind (m := tryMethod (.ref a) _ (.ref b)) ?_
  unfold tryMethod
  refine wpAny_bind (special_fn kin J M.at_ (beq_iff_eq.mp M.fn) (wpAny_mono run (fun v s' hv => ?_) fun _ _ e => e))
  cases v <;> first | exact hv.elim | exact wpAny_pure (wpAny_pure (wpAny_pure hv))
end
end Own

set_option Elab.async false
set_option linter.all false
set_option maxRecDepth 100000
set_option maxHeartbeats 4000000
/-! Order: + - & <= ~. -/
namespace L2
open PySem PySem.Spec PyProof.Rows
section
variable {X : Cx}
/-- x in t, t a tuple of data -/
def rInT (K : PySem.W.Frag) : R2 := fun x y H Q => ∃ d ds, Dp K H x d ∧ Dp K H y (.tuple ds) ∧ SeqAt.shaped d = true ∧ SeqAt.shaped (.tuple ds) = true ∧ Q (.bl (ds.any fun z => PyData.eqv z d)) H
def rNotInT (K : PySem.W.Frag) : R2 := fun x y H Q => ∃ d ds, Dp K H x d ∧ Dp K H y (.tuple ds) ∧ SeqAt.shaped d = true ∧ SeqAt.shaped (.tuple ds) = true ∧ Q (.bl (!ds.any fun z => PyData.eqv z d)) H
theorem op_inT (hu : X.A.units + 65 < cLine) : OpR X (compareOp .In) (rInT X.K) := by
  intro pins s σ H x y v u Q I rx ry h
  obtain ⟨d, ds, hd, he, sd, se, q⟩ := h
  obtain ⟨as, r1⟩ := Dp.reads I d x v hd rx
  obtain ⟨bs, r2⟩ := Dp.reads I (.tuple ds) y u he ry
  exact SeqAt.in_tuple_reads r2 r1 (SeqAt.canLay_of_shaped se) (SeqAt.canLay_of_shaped sd) (room_in_shaped sd hu) ⟨.bl _, H, I, rfl, q⟩
theorem op_notInT (hu : X.A.units + 65 < cLine) : OpR X (compareOp .NotIn) (rNotInT X.K) := by
  intro pins s σ H x y v u Q I rx ry h
  obtain ⟨d, ds, hd, he, sd, se, q⟩ := h
  obtain ⟨as, r1⟩ := Dp.reads I d x v hd rx
  obtain ⟨bs, r2⟩ := Dp.reads I (.tuple ds) y u he ry
  exact SeqAt.notIn_tuple_reads r2 r1 (SeqAt.canLay_of_shaped se) (SeqAt.canLay_of_shaped sd) (room_in_shaped sd hu) ⟨.bl _, H, I, rfl, q⟩
end
end L2
namespace Od
open PySem PySem.NumText PySem.Spec PyProof.Rows L2 EvP Cm Fk DtE Tb Fi KSet Wd
open Dg hiding numT
/-- the pairs that a test keeps, at the places where they are -/
theorem compK {wi : TI} {σ : L2.St} {H : Hp} {tt : TT} {vs : List Nat} {i : Nat} {ks : List (List Key × Addr)} (keep : List Key → Bool) (hw : Walks wi σ H (refs ks)) (hz : ks.length ≤ 1000) (wp : ∀ x, wipe ((wipe σ vs).set i (some x)) vs = wipe σ vs) (hi : ∀ x, ((wipe σ vs).set i (some x))[i]? = some (some x))
    (ht : ∀ y ∈ ks, Tst tt ((wipe σ vs).set i (some (.ref y.2))) H (keep y.1)) : EvP.Gives (tLc wi (gName i) tt (tVar i) vs) σ H (lstV (refs (ks.filter fun y => keep y.1))) := fun H1 e1 Q q => by
  refine hw H1 e1 _ fun J H2 e2 ⟨G, w, g⟩ D hD => ?_
  have lr : (refs ks).length = ks.length := by unfold refs; rw [List.length_map]
  refine lc_it w (fun j H' => H' D = some (.lst (refs ((ks.take j).filter fun y => keep y.1))) ∧ Ex H2 H') ⟨upd_same, Ex.new hD⟩ (fun j H' _ ⟨_, e3⟩ => g _ e3) (fun j x H' H'' hj ⟨a1, a2⟩ y => ?_) (fun H' ⟨a1, a2⟩ => ?_)
  · obtain ⟨rfl, hx⟩ := y
    unfold refs at hx
    rw [List.getElem?_map] at hx
    obtain ⟨y, hy, rfl⟩ := Option.map_eq_some_iff.mp hx
    have my := List.mem_of_getElem? hy
    have tk : ks.take (j + 1) = ks.take j ++ [y] := by
      rw [List.take_add_one, hy]
      rfl
    refine ⟨wp _, ht y my _ ((e1.trans e2).trans a2) _ fun H3 e3 => ?_⟩
    have a1 := e3 _ _ a1
    have a2 := a2.trans e3
    cases kx : keep y.1 with
    | false =>
      refine ⟨?_, a2⟩
      rw [tk, List.filter_append, List.filter_cons, kx]
      simpa using a1
    | true =>
      refine ⟨.ref y.2, hi _, _, a1, ?_, ?_, fun b o hb => ?_⟩
      · have l1 : ((ks.take j).filter fun y => keep y.1).length ≤ ks.length := Nat.le_trans (List.length_filter_le _ _) (by rw [List.length_take]; omega)
        unfold refs
        rw [List.length_map, sizeLine_eq]
        omega
      · rw [upd_same, tk, List.filter_append, List.filter_cons, kx]
        unfold refs
        rw [List.map_append]
        rfl
      · rw [upd_ne (ne_of_none hb hD)]
        exact a2 _ _ hb
  · rw [lr, List.take_length] at a1
    exact q _ _ (e2.trans a2) ⟨D, rfl, a1⟩
theorem eqv_key {k l : List Key} (hk : GoodP k) (hl : GoodP l) : PyData.eqv (keyD k) (keyD l) = decide (k = l) := by
  have z := eqv_keys (R := [k]) (S := [l]) (fun y hy => by cases List.mem_singleton.mp hy; exact hk) (fun y hy => by cases List.mem_singleton.mp hy; exact hl)
  have e : PyData.eqvAll ([k].map keyD) ([l].map keyD) = PyData.eqv (keyD k) (keyD l) := by
    show (PyData.eqv (keyD k) (keyD l) && true) = _
    rw [Bool.and_true]
  rw [← e, z, decide_eq_decide]
  exact ⟨fun h => (List.cons.inj h).1, fun h => by rw [h]⟩
/-- whether a pair stands in a row -/
def hasK (R : List (List Key)) (k : List Key) : Bool := R.any fun z => decide (z = k)
theorem hasK_iff {R : List (List Key)} {k : List Key} : hasK R k = true ↔ k ∈ R := by
  unfold hasK
  rw [List.any_eq_true]
  exact ⟨fun ⟨z, hz, e⟩ => of_decide_eq_true e ▸ hz, fun h => ⟨k, h, decide_eq_true rfl⟩⟩
theorem any_key : ∀ {R : List (List Key)} {k : List Key}, Fine R → GoodP k → ((R.map keyD).any fun z => PyData.eqv z (keyD k)) = hasK R k
  | [], _, _, _ => rfl
  | x :: R, k, f, g => by
    have ih := any_key (R := R) (fun z hz => f z (.tail _ hz)) g
    unfold hasK at ih ⊢
    rw [List.map_cons, List.any_cons, List.any_cons, ih, eqv_key (f x (.head _)) g]
theorem shaped_key {k : List Key} (h : GoodP k) : SeqAt.shaped (keyD k) = true := by
  obtain ⟨a, x, e, ha, hx⟩ := h
  rw [e]
  show ((PyData.strOk a && (PyData.strOk x && true)) && decide (max 0 (max 0 0) + 1 ≤ 64)) = true
  rw [strOk_name ha, strOk_name hx]
  rfl
/-- the pairs of an order, as its field -/
def tupK (R : List (List Key)) : PR := ⟨fun v H => ∃ (p : Addr) (ks : List (List Key × Addr)), v = .ref p ∧ Fz H p (refs ks) ∧ Lie H ks ∧ ks.map Prod.fst = R, fun _ _ _ e ⟨p, ks, h1, h2, h3, h4⟩ => ⟨p, ks, h1, h2.ex e, h3.ex e, h4⟩⟩
section
variable {K : PySem.W.Frag} {C : Addr} {σ : L2.St} {H : Hp} {te ta tb : TE} {R S : List (List Key)} {k : List Key}
theorem g_pairs (SC : OrdC K C) (h : EvP.Gives te σ H (ordP C R)) : EvP.Gives (tFld K te "pairs") σ H (tupK R) := fun H1 e Q q =>
  h H1 e _ fun v H2 e2 ⟨b, ev, dx, p, ks, h1, h2, h3, h4⟩ => by
    subst ev
    exact ⟨b, C, dx, _, _, rfl, h1, SC.cl, SC.nP, rfl, q _ _ e2 ⟨p, ks, rfl, h2, h3, h4⟩⟩
/-- k in pairs -/
theorem g_inT {a : Addr} {i : Nat} (hi : σ[i]? = some (some (.ref a))) (ha : H a = some (.tup (k.map kV))) (g : GoodP k) (h : EvP.Gives te σ H (tupK R)) (f : Fine R) (few : R.length ≤ 100) : EvP.Gives (tOp (rInT K) (tVar i) te) σ H (is (.bl (hasK R k))) := fun H1 e Q q =>
  ⟨_, hi, h H1 e _ fun v H2 e2 ⟨p, ks, ev, hp, lie, ek⟩ => by
    subst ev
    refine ⟨keyD k, R.map keyD, .tup (SqT.of (e2 _ _ (e _ _ ha))) (dp_key k), .tup hp.sq (by rw [← ek]; exact dp_refs lie), shaped_key g, shaped_tup f, ?_⟩
    rw [any_key f g]
    exact q _ _ e2 rfl⟩
theorem g_notInT {a : Addr} {i : Nat} (hi : σ[i]? = some (some (.ref a))) (ha : H a = some (.tup (k.map kV))) (g : GoodP k) (h : EvP.Gives te σ H (tupK R)) (f : Fine R) (few : R.length ≤ 100) : EvP.Gives (tOp (rNotInT K) (tVar i) te) σ H (is (.bl (!hasK R k))) := fun H1 e Q q =>
  ⟨_, hi, h H1 e _ fun v H2 e2 ⟨p, ks, ev, hp, lie, ek⟩ => by
    subst ev
    refine ⟨keyD k, R.map keyD, .tup (SqT.of (e2 _ _ (e _ _ ha))) (dp_key k), .tup hp.sq (by rw [← ek]; exact dp_refs lie), shaped_key g, shaped_tup f, ?_⟩
    rw [any_key f g]
    exact q _ _ e2 rfl⟩
end
/-- a row as an order may have it -/
structure RowO (R : List (List Key)) : Prop where
  nod : R.Nodup
  fine : Fine R
  few : R.length ≤ 36
theorem RowO.filter {R : List (List Key)} (h : RowO R) (p : List Key → Bool) : RowO (R.filter p) :=
  ⟨h.nod.sublist List.filter_sublist, fun k hk => h.fine k (List.mem_filter.mp hk).1, Nat.le_trans (List.length_filter_le _ _) h.few⟩
theorem filter_fst (p : List Key → Bool) (ks : List (List Key × Addr)) : (ks.filter fun y => p y.1).map Prod.fst = (ks.map Prod.fst).filter p := by
  rw [List.filter_map]
  rfl
theorem outs_ok {C CO CT : Addr} {R : List (List Key)} {H : Hp} {Q : VK} {E : XK} (h : RowO R) (k : ∀ b H', Ex H H' → OrdAt C H' b R → Q (.ref b) H') : Outs C CO CT R H Q E :=
  ⟨fun n => absurd h.nod n, fun _ c => absurd c (by have := h.few; omega), fun _ _ b H' e hb => k b H' e hb⟩
theorem Outs.ex {C CO CT : Addr} {R : List (List Key)} {H H1 : Hp} {Q : VK} {E : XK} (e : Ex H H1) (o : Outs C CO CT R H Q E) : Outs C CO CT R H1 Q E :=
  ⟨fun n d H' e' hd => o.1 n d H' (e.trans e') hd, fun n c d H' e' hd => o.2.1 n c d H' (e.trans e') hd, fun n c b H' e' h => o.2.2 n c b H' (e.trans e') h⟩
abbrev sOther : Stmt := top 48
theorem scOther : FnScope ["other"] ["other"] (defScope sOther) := ⟨rfl, rfl, rfl, by decide +kernel, rfl, by decide +kernel, by decide +kernel⟩
def spOther (C : Addr) : Sp := fun vs H Q _ => ∃ b R, vs = [.ref b] ∧ OrdAt C H b R ∧ Q .non H
/-- one op other, both orders -/
def spOTwo (C : Addr) (f : List (List Key) → List (List Key) → List (List Key)) : Sp := fun vs H Q _ => ∃ a b R S, vs = [.ref a, .ref b] ∧ OrdAt C H a R ∧ OrdAt C H b S ∧ RowO R ∧ RowO S ∧ ∀ c H', Ex H H' → OrdAt C H' c (f R S) → Q (.ref c) H'
/-- one + other -/
def spOAdd (C CO CT : Addr) : Sp := fun vs H Q E => ∃ a b R S, vs = [.ref a, .ref b] ∧ OrdAt C H a R ∧ OrdAt C H b S ∧ RowO R ∧ RowO S ∧ (R ++ S).length < 64 ∧ Outs C CO CT (R ++ S) H Q E
def subK (R S : List (List Key)) : List (List Key) := R.filter fun k => !hasK S k
def andK (R S : List (List Key)) : List (List Key) := R.filter (hasK S)
def spOLe (C : Addr) : Sp := fun vs H Q _ => ∃ a b R S, vs = [.ref a, .ref b] ∧ OrdAt C H a R ∧ OrdAt C H b S ∧ RowO R ∧ RowO S ∧ ∀ H', Ex H H' → Q (.bl (decide (R = andK S R))) H'
/-- turned -/
def swapK : List Key → List Key
  | [a, b] => [b, a]
  | k => k
def spOInv (C : Addr) : Sp := fun vs H Q _ => ∃ a R, vs = [.ref a] ∧ OrdAt C H a R ∧ RowO R ∧ ∀ c H', Ex H H' → OrdAt C H' c (R.map swapK) → Q (.ref c) H'
theorem scOAdd : FnScope ["self", "other"] ["self", "other"] (defScope (ometh 8)) := ⟨rfl, rfl, rfl, by decide +kernel, rfl, by decide +kernel, by decide +kernel⟩
abbrev NOp : List Str := ["self", "other", "pair"]
theorem scOSub : FnScope NOp ["self", "other"] (defScope (ometh 9)) := ⟨rfl, rfl, rfl, by decide +kernel, rfl, by decide +kernel, by decide +kernel⟩
theorem scOAnd : FnScope NOp ["self", "other"] (defScope (ometh 10)) := ⟨rfl, rfl, rfl, by decide +kernel, rfl, by decide +kernel, by decide +kernel⟩
theorem scOLe : FnScope NOp ["self", "other"] (defScope (ometh 11)) := ⟨rfl, rfl, rfl, by decide +kernel, rfl, by decide +kernel, by decide +kernel⟩
theorem scOInv : FnScope ["self", "use", "source"] ["self"] (defScope (ometh 12)) := ⟨rfl, rfl, rfl, by decide +kernel, rfl, by decide +kernel, by decide +kernel⟩
section
variable {P : Program} {w : World} {K : PySem.W.Frag} {mg : Str → Option Value} {base : Heap} {C CO CT f fX fOf pOf : Addr} {fd fdX fdOf : FuncData}
theorem ok_other (F : Fun K "check_other" "check_other" sOther f fd) (S : OrdC K C) (SI : SideI K C) (T : Fk.Blt mg) (gO : mg "Order" = some (.ref C)) : FnOk P w K mg base CX0 1 f fd ["other"] (spOther C) := by
  refine F.ok scOther (fun vs H Q E h => ?_) (fun cdv A outer s H vs Q E hr h => ?_)
  · obtain ⟨b, R, rfl, _⟩ := h
    rfl
  · obtain ⟨b, R, rfl, ⟨dx, p, ks, h1, _⟩, q⟩ := h
    refine ⟨_, pss_one (ps_if (pt_not (pt_val (pe_callB call_isi (by rfl) T.isi (by decide +kernel) (pa_cons (pv 0) (pa_cons (pe_glob (v := .ref C) (by rfl) gO rfl) pa_nil))))) pss_dead pss_nil), ?_⟩
    refine ⟨_, rfl, _, _, _, _, true, rfl, .own C, .base (.ins h1 S.cl SI.ha SI.hn SI.htk SI.hm), ?_, true, rfl, q⟩
    unfold PySem.W.kitOne
    rw [if_pos (by simp)]
theorem lie_pairK {R : List (List Key)} (f : Fine R) {ks : List (List Key × Addr)} (e : ks.map Prod.fst = R) : ∀ y ∈ ks, PairK y.1 := fun y hy => (f y.1 (by rw [← e]; exact List.mem_map_of_mem hy)).pairK
/-- Order.of(a list of pairs) -/
theorem of_list {σ : L2.St} {H : Hp} {te : TE} {ks : List (List Key × Addr)} {R : List (List Key)} {Q : VK} {E : XK} (h : EvP.Gives te σ H (lstV (refs ks))) (lie : Lie H ks) (ek : ks.map Prod.fst = R) (fine : Fine R) (few : R.length < 64) (o : Outs C CO CT R H Q E) : ClX.tCMeth C (spOOf K C CO CT) E (tC (.ref C)) (tCons te tNil) σ H Q :=
  ⟨rfl, h H (Ex.refl _) _ fun v H1 e1 ⟨a, ev, ha⟩ => ⟨a, ks, by rw [ev], .inl (SqL.of ha), lie.ex e1, lie_pairK fine ek, by rw [← ek, List.length_map] at few; exact few, by rw [ek]; exact Outs.ex e1 o⟩⟩
theorem ok_oadd (F : Fun K "__add__" "Order.__add__" (ometh 8) f fd) (SC : OrdC K C) (gO : mg "Order" = some (.ref C)) (GX : FnOk P w K mg base CX0 1 fX fdX ["other"] (spOther C)) (bX : Binds K fdX ["other"] []) (gX : mg "check_other_orders" = some (.ref fX)) (kX : PySem.W.keepIn K (.ref fX) = true)
    (r : ClX.CRead K C (.type "type")) (c : ClX.CMet K C (.type "type") "of" pOf fOf) (GO2 : FnOk P w K mg base (L2.CX P w) 6 fOf fdOf ["cls", "pairs"] (spOOf K C CO CT)) (bOf : Binds K fdOf ["cls", "pairs"] []) : FnOk P w K mg base (L2.CX P w) 7 f fd ["self", "other"] (spOAdd C CO CT) := by
  refine F.okX scOAdd (fun vs H Q E h => ?_) (fun cdv A outer s H vs Q E hr h => ?_)
  · obtain ⟨a, b, R, S, rfl, _⟩ := h
    rfl
  · obtain ⟨a, b, R, S, rfl, oa, ob, rR, rS, few, o⟩ := h
    have px : Passes (L2.CX P w) (cxOf (L2.CX P w) P w K mg base ["self", "other"] "Order.__add__" (defScope (ometh 8)) f cdv A outer s H E) E := passes_call (W := fun cls d _ H => E cls d H) (takes_of rfl rfl rfl rfl) (fun _ _ _ _ z => z)
    refine ⟨_, pss_cons (ps_expr (pe_call GX (hr.mono (by decide)) (by rfl) gX kX bX .nil pass0 (pa_cons (pv 1) pa_nil)))
      (pss_one (ps_ret (ClX.pe_cmeth (E := E) (pe_glob (v := .ref C) (by rfl) gO rfl) r c (FnOk.toR GO2 bOf) hr px (pa_cons (pe_op op_catA (pe_fld (pv 0) rfl) (pe_fld (pv 1) rfl)) pa_nil)))), ?_⟩
    refine ⟨_, rfl, b, S, rfl, ob, rfl, ?_⟩
    obtain ⟨dx, p, ks, h1, h2, h3, h4⟩ := oa
    obtain ⟨dy, p2, ks2, k1, k2, k3, k4⟩ := ob
    have lk : ks.length + ks2.length < 64 := by
      rw [← h4, ← k4, List.length_append, List.length_map, List.length_map] at few
      exact few
    have lr : ∀ l : List (List Key × Addr), (refs l).length = l.length := fun l => by unfold refs; rw [List.length_map]
    have fin : ∀ v H', Ex H H' → (∃ q, v = .ref q ∧ SqT K H' q (refs (ks ++ ks2))) → spOOf K C CO CT [.ref C, v] H' Q E := fun v H' e ⟨q, ev, hq⟩ => by
      subst ev
      refine ⟨q, ks ++ ks2, rfl, .inr hq, fun y hy => ?_, fun y hy => ?_, by rw [List.length_append]; omega, ?_⟩
      · rcases List.mem_append.mp hy with hy | hy
        · exact e _ _ (h3 y hy)
        · exact e _ _ (k3 y hy)
      · rcases List.mem_append.mp hy with hy | hy
        · exact lie_pairK rR.fine h4 y hy
        · exact lie_pairK rS.fine k4 y hy
      · rw [List.map_append, h4, k4]
        exact Outs.ex e o
    have rapp : refs (ks ++ ks2) = refs ks ++ refs ks2 := by unfold refs; rw [List.map_append]
    refine ⟨_, rfl, a, C, dx, _, _, rfl, h1, SC.cl, SC.nP, rfl, _, rfl, b, C, dy, _, _, rfl, k1, SC.cl, SC.nP, rfl, p, p2, refs ks, refs ks2, rfl, rfl, h2.sq, k2.sq, by rw [lr, lr, sizeLine_eq]; omega, fun e0 => ?_, fun _ e0 => ?_, fun _ _ q hq => ?_⟩
    · exact fin _ H (Ex.refl _) ⟨p2, rfl, by rw [rapp, e0]; exact k2.sq⟩
    · exact fin _ H (Ex.refl _) ⟨p, rfl, by rw [rapp, e0, List.append_nil]; exact h2.sq⟩
    · exact fin _ _ (Ex.new hq) ⟨q, rfl, SqT.of (by rw [upd_same, rapp])⟩
end
end Od

set_option Elab.async false
set_option linter.all false
set_option maxRecDepth 100000
set_option maxHeartbeats 4000000
/-! Order: - & <= ~. -/
namespace Od
open PySem PySem.NumText PySem.Spec PyProof.Rows L2 EvP Cm Fk DtE Tb Fi KSet Wd
open Dg hiding numT
theorem hu65 {A : Around} {k : Nat} (r : Room k A) : A.units + 65 < cLine := by have := r.un; omega
theorem swap_good {k : List Key} (h : GoodP k) : GoodP (swapK k) := by
  obtain ⟨a, x, e, ha, hx⟩ := h
  exact ⟨x, a, by rw [e]; rfl, hx, ha⟩
theorem swap_swap {k : List Key} (h : GoodP k) : swapK (swapK k) = k := by
  obtain ⟨a, x, e, _⟩ := h
  rw [e]
  rfl
theorem RowO.swap {R : List (List Key)} (h : RowO R) : RowO (R.map swapK) := by
  refine ⟨?_, fun k hk => ?_, by rw [List.length_map]; exact h.few⟩
  · refine List.pairwise_map.mpr (List.Pairwise.imp_of_mem ?_ h.nod)
    intro a b ha hb n e
    exact n (by rw [← swap_swap (h.fine a ha), ← swap_swap (h.fine b hb), e])
  · obtain ⟨l, hl, rfl⟩ := List.mem_map.mp hk
    exact swap_good (h.fine l hl)
section
variable {P : Program} {w : World} {K : PySem.W.Frag} {mg : Str → Option Value} {base : Heap} {C CO CT f fX fOf pOf : Addr} {fd fdX fdOf : FuncData}
theorem ok_osub (F : Fun K "__sub__" "Order.__sub__" (ometh 9) f fd) (SC : OrdC K C) (gO : mg "Order" = some (.ref C)) (GX : FnOk P w K mg base CX0 1 fX fdX ["other"] (spOther C)) (bX : Binds K fdX ["other"] []) (gX : mg "check_other_orders" = some (.ref fX)) (kX : PySem.W.keepIn K (.ref fX) = true)
    (r : ClX.CRead K C (.type "type")) (c : ClX.CMet K C (.type "type") "of" pOf fOf) (GO2 : FnOk P w K mg base (L2.CX P w) 6 fOf fdOf ["cls", "pairs"] (spOOf K C CO CT)) (bOf : Binds K fdOf ["cls", "pairs"] []) : FnOk P w K mg base CX0 7 f fd ["self", "other"] (spOTwo C subK) := by
  have nd := scOSub.nd
  refine F.ok scOSub (fun vs H Q E h => ?_) (fun cdv A outer s H vs Q E hr h => ?_)
  · obtain ⟨a, b, R, S, rfl, _⟩ := h
    rfl
  · obtain ⟨a, b, R, S, rfl, oa, ob, rR, rS, q⟩ := h
    refine ⟨_, pss_cons (ps_expr (pe_call GX (hr.mono (by decide)) (by rfl) gX kX bX .nil pass0 (pa_cons (pv 1) pa_nil)))
      (pss_one (ps_ret (ClX.pe_cmeth (E := E0) (pe_glob (v := .ref C) (by rfl) gO rfl) r c (FnOk.toR GO2 bOf) hr passL (pa_cons (pe_lc (own := [("pair", 2)]) (g := gName 2) (tt := tTest (tOp (rNotInT K) (tVar 2) (tFld K (tVar 1) "pairs"))) (te := tVar 2) rfl nd (pi_tup (pe_fld (pv 0) rfl)) (blkOk_by (N := NOp) (sc := defScope (ometh 9)) (by decide +kernel))
        (fun _ _ _ _ _ => by exact pg_name (i := 2) nd rfl (Or.inl rfl)) (fun _ _ _ _ _ => by exact pts_one (pt_cmpR (op_notInT (hu65 hr)) (pv 2) (pe_fld (pv 1) rfl) (by rfl))) (fun _ _ _ _ _ => by exact pv 2)) pa_nil)))), ?_⟩
    refine ⟨_, rfl, b, S, rfl, ob, ?_⟩
    obtain ⟨dx, p, ks, h1, h2, h3, h4⟩ := id oa
    refine of_list (K := K) (C := C) (CO := CO) (CT := CT) (σ := [some (.ref a), some (.ref b), none]) (R := subK R S) (compK (wi := iTup K (tFld K (tVar 0) "pairs")) (i := 2) (vs := [2]) (σ := [some (.ref a), some (.ref b), none]) (fun k => !hasK S k) (walks_fz (g_fld (i := 0) rfl h1 SC.cl SC.nP rfl (⟨p, rfl, h2⟩ : (fzV (refs ks)).R (.ref p) H))) (by rw [← List.length_map (f := Prod.fst), h4]; have := rR.few; omega) (fun _ => rfl) (fun _ => rfl) (fun y hy => t_test (g_notInT (K := K) (i := 2) rfl (h3 y hy) (rR.fine y.1 (by rw [← h4]; exact List.mem_map_of_mem hy)) (g_pairs SC (EvP.varP (i := 1) rfl ⟨b, rfl, ob⟩)) rS.fine (by have := rS.few; omega)))) (fun y hy => h3 y (List.mem_filter.mp hy).1) (by rw [filter_fst (fun k => !hasK S k), h4]; rfl) (rR.filter _).fine (by have := (rR.filter fun k => !hasK S k).few; exact Nat.lt_of_le_of_lt this (by decide)) (outs_ok (rR.filter _) fun c H' e hc => q c H' e hc)
theorem ok_oand (F : Fun K "__and__" "Order.__and__" (ometh 10) f fd) (SC : OrdC K C) (gO : mg "Order" = some (.ref C)) (GX : FnOk P w K mg base CX0 1 fX fdX ["other"] (spOther C)) (bX : Binds K fdX ["other"] []) (gX : mg "check_other_orders" = some (.ref fX)) (kX : PySem.W.keepIn K (.ref fX) = true)
    (r : ClX.CRead K C (.type "type")) (c : ClX.CMet K C (.type "type") "of" pOf fOf) (GO2 : FnOk P w K mg base (L2.CX P w) 6 fOf fdOf ["cls", "pairs"] (spOOf K C CO CT)) (bOf : Binds K fdOf ["cls", "pairs"] []) : FnOk P w K mg base CX0 7 f fd ["self", "other"] (spOTwo C andK) := by
  have nd := scOAnd.nd
  refine F.ok scOAnd (fun vs H Q E h => ?_) (fun cdv A outer s H vs Q E hr h => ?_)
  · obtain ⟨a, b, R, S, rfl, _⟩ := h
    rfl
  · obtain ⟨a, b, R, S, rfl, oa, ob, rR, rS, q⟩ := h
    refine ⟨_, pss_cons (ps_expr (pe_call GX (hr.mono (by decide)) (by rfl) gX kX bX .nil pass0 (pa_cons (pv 1) pa_nil)))
      (pss_one (ps_ret (ClX.pe_cmeth (E := E0) (pe_glob (v := .ref C) (by rfl) gO rfl) r c (FnOk.toR GO2 bOf) hr passL (pa_cons (pe_lc (own := [("pair", 2)]) (g := gName 2) (tt := tTest (tOp (rInT K) (tVar 2) (tFld K (tVar 1) "pairs"))) (te := tVar 2) rfl nd (pi_tup (pe_fld (pv 0) rfl)) (blkOk_by (N := NOp) (sc := defScope (ometh 10)) (by decide +kernel))
        (fun _ _ _ _ _ => by exact pg_name (i := 2) nd rfl (Or.inl rfl)) (fun _ _ _ _ _ => by exact pts_one (pt_cmpR (op_inT (hu65 hr)) (pv 2) (pe_fld (pv 1) rfl) (by rfl))) (fun _ _ _ _ _ => by exact pv 2)) pa_nil)))), ?_⟩
    refine ⟨_, rfl, b, S, rfl, ob, ?_⟩
    obtain ⟨dx, p, ks, h1, h2, h3, h4⟩ := id oa
    refine of_list (K := K) (C := C) (CO := CO) (CT := CT) (σ := [some (.ref a), some (.ref b), none]) (R := andK R S) (compK (wi := iTup K (tFld K (tVar 0) "pairs")) (i := 2) (vs := [2]) (σ := [some (.ref a), some (.ref b), none]) (hasK S) (walks_fz (g_fld (i := 0) rfl h1 SC.cl SC.nP rfl (⟨p, rfl, h2⟩ : (fzV (refs ks)).R (.ref p) H))) (by rw [← List.length_map (f := Prod.fst), h4]; have := rR.few; omega) (fun _ => rfl) (fun _ => rfl) (fun y hy => t_test (g_inT (K := K) (i := 2) rfl (h3 y hy) (rR.fine y.1 (by rw [← h4]; exact List.mem_map_of_mem hy)) (g_pairs SC (EvP.varP (i := 1) rfl ⟨b, rfl, ob⟩)) rS.fine (by have := rS.few; omega)))) (fun y hy => h3 y (List.mem_filter.mp hy).1) (by rw [filter_fst (hasK S), h4]; rfl) (rR.filter _).fine (by have := (rR.filter (hasK S)).few; exact Nat.lt_of_le_of_lt this (by decide)) (outs_ok (rR.filter _) fun c H' e hc => q c H' e hc)
theorem ok_ole (F : Fun K "__le__" "Order.__le__" (ometh 11) f fd) (SC : OrdC K C) (hL : mg "list" = none) (GX : FnOk P w K mg base CX0 1 fX fdX ["other"] (spOther C)) (bX : Binds K fdX ["other"] []) (gX : mg "check_other_orders" = some (.ref fX)) (kX : PySem.W.keepIn K (.ref fX) = true) : FnOk P w K mg base CX0 2 f fd ["self", "other"] (spOLe C) := by
  have nd := scOLe.nd
  refine F.ok scOLe (fun vs H Q E h => ?_) (fun cdv A outer s H vs Q E hr h => ?_)
  · obtain ⟨a, b, R, S, rfl, _⟩ := h
    rfl
  · obtain ⟨a, b, R, S, rfl, oa, ob, rR, rS, q⟩ := h
    refine ⟨_, pss_cons (ps_expr (pe_call GX hr (by rfl) gX kX bX .nil pass0 (pa_cons (pv 1) pa_nil)))
      (pss_one (ps_ret (pe_cmpR (op_eqD hr.units) (pe_callTy (T := "list") call_list_of (by rfl) hL (by decide +kernel) (pa_cons (pe_fld (pv 0) rfl) pa_nil)) (pe_lc (own := [("pair", 2)]) (g := gName 2) (tt := tTest (tOp (rInT K) (tVar 2) (tFld K (tVar 0) "pairs"))) (te := tVar 2) rfl nd (pi_tup (pe_fld (pv 1) rfl)) (blkOk_by (N := NOp) (sc := defScope (ometh 11)) (by decide +kernel))
        (fun _ _ _ _ _ => by exact pg_name (i := 2) nd rfl (Or.inl rfl)) (fun _ _ _ _ _ => by exact pts_one (pt_cmpR (op_inT (hu65 hr)) (pv 2) (pe_fld (pv 0) rfl) (by rfl))) (fun _ _ _ _ _ => by exact pv 2)) (nomark _)))), ?_⟩
    refine ⟨_, rfl, b, S, rfl, ob, ?_⟩
    obtain ⟨dx, p, ks, h1, h2, h3, h4⟩ := id oa
    obtain ⟨dy, p2, ks2, k1, k2, k3, k4⟩ := id ob
    refine ⟨_, rfl, a, C, dx, _, _, rfl, h1, SC.cl, SC.nP, rfl, p, _, rfl, .inr h2.sq, fun l hl => ?_⟩
    have el := Ex.new (o := .lst (refs ks)) hl
    have gc : EvP.Gives (tLc (iTup K (tFld K (tVar 1) "pairs")) (gName 2) (tTest (tOp (rInT K) (tVar 2) (tFld K (tVar 0) "pairs"))) (tVar 2) [2]) [some (.ref a), some (.ref b), none] H (lstV (refs (ks2.filter fun y => hasK R y.1))) :=
      compK (hasK R) (walks_fz (g_fld (i := 1) rfl k1 SC.cl SC.nP rfl (⟨p2, rfl, k2⟩ : (fzV (refs ks2)).R (.ref p2) H))) (by rw [← List.length_map (f := Prod.fst), k4]; have := rS.few; omega) (fun _ => rfl) (fun _ => rfl) (fun y hy => t_test (g_inT (K := K) (i := 2) rfl (k3 y hy) (rS.fine y.1 (by rw [← k4]; exact List.mem_map_of_mem hy)) (g_pairs SC (EvP.varP (i := 0) rfl ⟨a, rfl, oa⟩)) rR.fine (by have := rR.few; omega)))
    refine gc _ el _ fun v H2 e2 ⟨l2, ev, hl2⟩ => ?_
    subst ev
    have fS := (rS.filter (hasK R)).fine
    refine ⟨.list (R.map keyD), .list ((andK S R).map keyD), .lst (SqL.of (e2 _ _ upd_same)) ?_, .lst (SqL.of hl2) ?_, shaped_keysL rR.fine, shaped_keysL fS, ?_⟩
    · rw [← h4]
      exact dp_refs (h3.ex (el.trans e2))
    · have ek : (ks2.filter fun y => hasK R y.1).map Prod.fst = andK S R := by
        rw [filter_fst (hasK R), k4]
        rfl
      rw [← ek]
      exact dp_refs fun y hy => (k3.ex (el.trans e2)) y (List.mem_filter.mp hy).1
    · rw [show PyData.eqv (.list (R.map keyD)) (.list ((andK S R).map keyD)) = decide (R = andK S R) from eqv_keys rR.fine fS]
      exact q _ (el.trans e2)
theorem ok_oinv (F : Fun K "__invert__" "Order.__invert__" (ometh 12) f fd) (SC : OrdC K C) (gO : mg "Order" = some (.ref C))
    (r : ClX.CRead K C (.type "type")) (c : ClX.CMet K C (.type "type") "of" pOf fOf) (GO2 : FnOk P w K mg base (L2.CX P w) 6 fOf fdOf ["cls", "pairs"] (spOOf K C CO CT)) (bOf : Binds K fdOf ["cls", "pairs"] []) : FnOk P w K mg base CX0 7 f fd ["self"] (spOInv C) := by
  have nd := scOInv.nd
  refine F.ok scOInv (fun vs H Q E h => ?_) (fun cdv A outer s H vs Q E hr h => ?_)
  · obtain ⟨a, R, rfl, _⟩ := h
    rfl
  · obtain ⟨a, R, rfl, oa, rR, q⟩ := h
    refine ⟨_, pss_one (ps_ret (ClX.pe_cmeth (E := E0) (pe_glob (v := .ref C) (by rfl) gO rfl) r c (FnOk.toR GO2 bOf) hr passL (pa_cons (pe_lc (own := [("source", 2), ("use", 1)]) (g := gTup K 2 (gCons (gName 2) (gCons (gName 1) gNil))) (tt := tYes) (te := tTup (tCons (tVar 1) (tCons (tVar 2) tNil))) rfl nd (pi_tup (pe_fld (pv 0) rfl)) (blkOk_by (N := ["self", "use", "source"]) (sc := defScope (ometh 12)) (by decide +kernel))
        (fun _ _ _ _ _ => by exact pg_tup rfl (pgs_cons (pg_name (i := 2) nd rfl (Or.inl rfl)) (pgs_cons (pg_name (i := 1) nd rfl (Or.inl rfl)) pgs_nil))) (fun _ _ _ _ _ => pts_nil) (fun _ _ _ _ _ => by exact pe_tup (pa_cons (pv 1) (pa_cons (pv 2) pa_nil)))) pa_nil))), ?_⟩
    obtain ⟨dx, p, ks, h1, h2, h3, h4⟩ := id oa
    have lk : ks.length = R.length := by rw [← h4, List.length_map]
    have few := rR.few
    have gc : EvP.Gives (tLc (iTup K (tFld K (tVar 0) "pairs")) (gTup K 2 (gCons (gName 2) (gCons (gName 1) gNil))) tYes (tTup (tCons (tVar 1) (tCons (tVar 2) tNil))) [2, 1]) [some (.ref a), none, none] H (lst H ((R.map swapK).map isK)) := by
      refine compP (xs := refs ks) (walks_fz (g_fld (i := 0) rfl h1 SC.cl SC.nP rfl (⟨p, rfl, h2⟩ : (fzV (refs ks)).R (.ref p) H))) (by rw [List.length_map]; omega) (by rw [List.length_map, List.length_map, List.length_map, lk]) (fun j x P hx hP => ?_) (fun P hP => ?_)
      · rw [List.getElem?_map] at hx
        rw [List.map_map, List.getElem?_map] at hP
        obtain ⟨k, hk, rfl⟩ := Option.map_eq_some_iff.mp hP
        obtain ⟨y, hy, rfl⟩ := Option.map_eq_some_iff.mp hx
        have ey : y.1 = k := by
          rw [← h4, List.getElem?_map, hy] at hk
          exact Option.some.inj hk
        subst ey
        have hb := h3 y (List.mem_of_getElem? hy)
        obtain ⟨b, x, ek, _, _⟩ := rR.fine y.1 (List.mem_of_getElem? hk)
        rw [ek] at hb
        refine ⟨[some (.ref a), some (.str x), some (.str b)], rfl, fun H1 e Q k => ⟨y.2, _, rfl, SqT.of (e _ _ hb), rfl, _, _, rfl, _, _, rfl, rfl, k⟩, fun H1 e Q k => ?_⟩
        refine ⟨_, rfl, _, rfl, by show 2 ≤ sizeLine; decide, fun t ht => k _ _ (Ex.new ht) ⟨t, rfl, ?_⟩⟩
        rw [upd_same, ek]
        rfl
      · obtain ⟨k, _, rfl⟩ := List.mem_map.mp hP
        exact fun v H D l1 l2 ⟨a, h1, h2⟩ hD => ⟨a, h1, by rw [upd_ne (ne_of h2 hD (fun z => nomatch z))]; exact h2⟩
    refine ⟨rfl, gc H (Ex.refl _) _ fun v H1 e1 ⟨l, vs, ev, hl, _, al⟩ => ?_⟩
    obtain ⟨kas, rfl, ek, lie⟩ : ∃ kas, vs = refs kas ∧ kas.map Prod.fst = R.map swapK ∧ Lie H1 kas := by
      clear ev hl
      generalize R.map swapK = S at al
      induction S generalizing vs with
      | nil => cases al; exact ⟨[], rfl, rfl, fun y hy => by cases hy⟩
      | cons k S ih =>
        cases al with
        | cons h t =>
          obtain ⟨a, ev, ha⟩ := h
          obtain ⟨kas, e1, e2, l⟩ := ih _ t
          subst ev e1 e2
          exact ⟨(k, a) :: kas, rfl, rfl, fun y hy => by
            rcases List.mem_cons.mp hy with rfl | hy
            · exact ha
            · exact l y hy⟩
    exact ⟨l, kas, by rw [ev], .inl (SqL.of hl), lie, lie_pairK rR.swap.fine ek, by rw [← List.length_map (f := Prod.fst), ek, List.length_map]; omega, by rw [ek]; exact outs_ok rR.swap fun c H' e hc => q c H' (e1.trans e) hc⟩
end
end Od

set_option Elab.async false
set_option linter.all false
set_option maxRecDepth 100000
set_option maxHeartbeats 4000000
/-! t.index(x), t a tuple of data (a call of the built-in; no rule yet calls a method of a tuple of the heap). -/
namespace L2
open PySem PySem.Spec PyProof.Rows
section
variable {X : Cx}
/-- t.index(x), t a tuple of data: the first place of an equal one -/
def rIndexT (K : PySem.W.Frag) : V → List V → Hp → VK → Prop := fun x xs H Q => ∃ (a : Addr) (y : V) (d : PyData) (ds : List PyData) (j : Nat) (z : PyData), x = V.ref a ∧ xs = [y] ∧ Dp K H (V.ref a) (.tuple ds) ∧ Dp K H y d ∧
  SeqAt.shaped (.tuple ds) = true ∧ SeqAt.shaped d = true ∧ ds[j]? = some z ∧ PyData.eqv z d = true ∧ (∀ (m : Nat) (z' : PyData), m < j → ds[m]? = some z' → PyData.eqv z' d = false) ∧ Q (.int (j : Nat)) H
theorem mt_indexT (hu : X.A.units + 65 < cLine) : MtR X "tuple.index" (rIndexT X.K) := by
  intro pins s σ H x xs v us Q I rx rxs h
  obtain ⟨a, y, d, ds, j, z, rfl, rfl, hl, hy, sl, sd, hz, hzj, hno, q⟩ := h
  cases rx
  cases rxs with
  | cons ry rt =>
    rename_i uy ut
    cases rt
    obtain ⟨bs, r1⟩ := Dp.reads I d y uy hy ry
    have hxs : PyData.canLayAll0 ds = true := SeqAt.canLay_of_shaped sl
    have hroom : X.A.units + 1 + min (PyData.depthAll ds) d.depth < cLine := room_in_shaped sd hu
    cases hl with
    | tup hs ha =>
      obtain ⟨its, rv, ⟨⟨cls, dd, data, sls⟩, ho, hc, n, hdt⟩, hlen⟩ := I.tuple hs
      simp only at hc hdt
      subst hc hdt
      obtain ⟨as, h4⟩ := Dp.readsAll I ds _ its ha rv
      have hn : its.length = ds.length := SeqAt.ReadsAll.length ds its as h4
      have hmap : its.map (SeqAt.readOf s.heap) = ds := SeqAt.readsAll_map ds its as hxs h4
      obtain ⟨hjd, _⟩ := List.getElem?_eq_some_iff.mp hz
      have hjl : j < its.length := by omega
      have hj : j < its.toArray.size := by simpa using hjl
      have at_ : ∀ (m : Nat) (hm : m < its.toArray.size) (z' : PyData), ds[m]? = some z' → SeqAt.readOf s.heap its.toArray[m] = z' := by
        intro m hm z' hz'
        have hml : m < its.length := by simpa using hm
        rw [← hmap, List.getElem?_map, List.getElem?_eq_getElem hml] at hz'
        have e1 : SeqAt.readOf s.heap its[m] = z' := Option.some.inj (show some (SeqAt.readOf s.heap its[m]) = some z' from hz')
        simpa using e1
      refine call_meets PySem.F.slot_tuple_index ⟨_, ho, rfl⟩ PySem.F.entry_tuple_index (PySem.F.args_tuple_index_2 _ _)
        (TI.tuple_indexAt a its.toArray n dd sls uy (fun u => PyData.eqv (SeqAt.readOf s.heap u) d) j hj ?_ ?_) ⟨ho, SeqAt.items_eqAt (vs := its.toArray) (show ReadsAll s.heap its.toArray.toList ds as from h4) r1 hxs (SeqAt.canLay_of_shaped sd) hroom, ?_⟩
      · show PyData.eqv (SeqAt.readOf s.heap its.toArray[j]) d = true
        rw [at_ j hj z hz]
        exact hzj
      · intro m hm hmj
        have hmd : m < ds.length := by omega
        have hz' : ds[m]? = some ds[m] := List.getElem?_eq_getElem hmd
        show PyData.eqv (SeqAt.readOf s.heap its.toArray[m]) d = false
        rw [at_ m hm _ hz']
        exact hno m _ hmj hz'
      · exact ⟨.int (j : Nat), H, I.tok _, ⟨_, rfl⟩, q⟩
end
end L2

set_option Elab.async false
set_option linter.all false
set_option maxRecDepth 100000
set_option maxHeartbeats 4000000
/-! check_pairs of a list; Order.reduced. -/
namespace Od
open PySem PySem.NumText PySem.Spec PyProof.Rows L2 EvP Cm Fk DtE Tb Fi KSet Wd
open Dg hiding numT
/-- check_pairs of a list of true pairs -/
def spChkL : Sp := fun vs H Q _ => ∃ (t : Addr) (ks : List (List Key × Addr)), vs = [.ref t] ∧ H t = some (.lst (refs ks)) ∧ Lie H ks ∧ (∀ y ∈ ks, PairK y.1) ∧ ∀ H', Ex H H' → Q .non H'
abbrev NRe : List Str := ["self", "pairs", "pair"]
theorem scORed : FnScope NRe ["self", "pairs"] (defScope (ometh 13)) := ⟨rfl, rfl, rfl, by decide +kernel, rfl, by decide +kernel, by decide +kernel⟩
def spORed (C : Addr) : Sp := fun vs H Q _ => ∃ a l R kl, vs = [.ref a, .ref l] ∧ OrdAt C H a R ∧ RowO R ∧ H l = some (.lst (refs kl)) ∧ Lie H kl ∧ Fine (kl.map Prod.fst) ∧ kl.length ≤ 100 ∧ ∀ c H', Ex H H' → OrdAt C H' c (andK R (kl.map Prod.fst)) → Q (.ref c) H'
section
variable {P : Program} {w : World} {K : PySem.W.Frag} {mg : Str → Option Value} {base : Heap} {C CO CT f fP fR fK fOf pOf : Addr} {fd fdP fdR fdK fdOf : FuncData}
theorem ok_chkL (F : Fun K "check_pairs" "check_pairs" sChk f fd) (GP : FnOk P w K mg base CX0 2 fP fdP ["value"] (spPair K)) (bP : Binds K fdP ["value"] []) (gP : mg "is_pair" = some (.ref fP)) (kP : PySem.W.keepIn K (.ref fP) = true) : FnOk P w K mg base CX0 3 f fd ["values"] spChkL := by
  have nd := scChk.nd
  refine F.ok scChk (fun vs H Q E h => ?_) (fun cdv A outer s H vs Q E hr h => ?_)
  · obtain ⟨t, ks, rfl, _⟩ := h
    rfl
  · obtain ⟨t, ks, rfl, ht, lie, pk, q⟩ := h
    refine ⟨_, pss_one (ps_for PassesOwn.never rfl (pi_list (pv 0)) (pg_name (i := 1) nd rfl (Or.inl rfl))
      (pss_one (ps_if (pt_not (pt_val (pe_call GP hr (by rfl) gP kP bP .nil pass0 (pa_cons (pv 1) pa_nil)))) pss_dead pss_nil))), ?_⟩
    refine ⟨_, rfl, t, rfl, ⟨_, SqL.of ht⟩, for_it (walk_list (xs := refs ks)) (fun i σ H' => ∃ z, σ = [some (.ref t), z] ∧ Ex H H') ⟨none, rfl, Ex.refl _⟩ (fun i σ H' _ ⟨_, _, e⟩ => SqL.of (e _ _ ht)) (fun i x σ H' H2 hi z y => ?_) (fun σ H' z => ?_)⟩
    · obtain ⟨z1, rfl, e⟩ := z
      obtain ⟨rfl, hx⟩ := y
      unfold refs at hx
      rw [List.getElem?_map] at hx
      obtain ⟨yk, hy, rfl⟩ := Option.map_eq_some_iff.mp hx
      have my := List.mem_of_getElem? hy
      obtain ⟨a, b, ek, na, nb⟩ := pk yk my
      have hb := e _ _ (lie yk my)
      rw [ek] at hb
      exact ⟨_, rfl, yk.2, a, b, rfl, hb, na, nb, true, rfl, _, rfl, e⟩
    · obtain ⟨z1, rfl, e⟩ := z
      exact q _ e
theorem ok_ored (F : Fun K "reduced" "Order.reduced" (ometh 13) f fd) (SC : OrdC K C) (gO : mg "Order" = some (.ref C)) (GR : FnOk P w K mg base CX0 1 fR fdR ["value"] (spRow K)) (bR : Binds K fdR ["value"] []) (gR : mg "is_row" = some (.ref fR)) (kR : PySem.W.keepIn K (.ref fR) = true)
    (GK : FnOk P w K mg base CX0 3 fK fdK ["values"] spChkL) (bK : Binds K fdK ["values"] []) (gK : mg "check_pairs" = some (.ref fK)) (kK : PySem.W.keepIn K (.ref fK) = true)
    (r : ClX.CRead K C (.type "type")) (c : ClX.CMet K C (.type "type") "of" pOf fOf) (GO2 : FnOk P w K mg base (L2.CX P w) 6 fOf fdOf ["cls", "pairs"] (spOOf K C CO CT)) (bOf : Binds K fdOf ["cls", "pairs"] []) : FnOk P w K mg base CX0 7 f fd ["self", "pairs"] (spORed C) := by
  have nd := scORed.nd
  refine F.ok scORed (fun vs H Q E h => ?_) (fun cdv A outer s H vs Q E hr h => ?_)
  · obtain ⟨a, l, R, kl, rfl, _⟩ := h
    rfl
  · obtain ⟨a, l, R, kl, rfl, oa, rR, hl, lie, fine, few, q⟩ := h
    refine ⟨_, pss_cons (ps_if (pt_not (pt_val (pe_call GR (hr.mono (by decide)) (by rfl) gR kR bR .nil pass0 (pa_cons (pv 1) pa_nil)))) pss_dead pss_nil)
      (pss_cons (ps_expr (pe_call GK (hr.mono (by decide)) (by rfl) gK kK bK .nil pass0 (pa_cons (pv 1) pa_nil)))
      (pss_one (ps_ret (ClX.pe_cmeth (E := E0) (pe_glob (v := .ref C) (by rfl) gO rfl) r c (FnOk.toR GO2 bOf) hr passL (pa_cons (pe_lc (own := [("pair", 2)]) (g := gName 2) (tt := tTest (tOp (rInD K) (tVar 2) (tVar 1))) (te := tVar 2) rfl nd (pi_tup (pe_fld (pv 0) rfl)) (blkOk_by (N := NRe) (sc := defScope (ometh 13)) (by decide +kernel))
        (fun _ _ _ _ _ => by exact pg_name (i := 2) nd rfl (Or.inl rfl)) (fun _ _ _ _ _ => by exact pts_one (pt_cmpR (op_inD (hu65 hr)) (pv 2) (pv 1) (by rfl))) (fun _ _ _ _ _ => by exact pv 2)) pa_nil))))), ?_⟩
    refine ⟨_, rfl, l, refs kl, rfl, .inl (SqL.of hl), fun H1 e1 => ⟨true, rfl, ?_⟩⟩
    have e1 : Ex H H1 := e1
    refine ⟨_, rfl, l, kl, rfl, e1 _ _ hl, lie.ex e1, fun y hy => (fine y.1 (List.mem_map_of_mem hy)).pairK, fun H2 e2 => ?_⟩
    have e2 := e1.trans e2
    obtain ⟨dx, p, ks, h1, h2, h3, h4⟩ := oa.mono e2
    have tst : ∀ y ∈ ks, EvP.Gives (tOp (rInD K) (tVar 2) (tVar 1)) [some (.ref a), some (.ref l), some (.ref y.2)] H2 (is (.bl (hasK (kl.map Prod.fst) y.1))) := fun y hy H3 e3 Q3 q3 => by
      have gy := rR.fine y.1 (by rw [← h4]; exact List.mem_map_of_mem hy)
      refine ⟨_, rfl, _, rfl, keyD y.1, (kl.map Prod.fst).map keyD, .tup (SqT.of (e3 _ _ (h3 y hy))) (dp_key y.1), .lst (SqL.of (e3 _ _ (e2 _ _ hl))) (dp_refs ((lie.ex e2).ex e3)), shaped_key gy, shaped_keysL fine, ?_⟩
      rw [any_key fine gy]
      exact q3 _ _ (Ex.refl _) rfl
    refine of_list (K := K) (C := C) (CO := CO) (CT := CT) (σ := [some (.ref a), some (.ref l), none]) (R := andK R (kl.map Prod.fst)) (compK (wi := iTup K (tFld K (tVar 0) "pairs")) (i := 2) (vs := [2]) (σ := [some (.ref a), some (.ref l), none]) (hasK (kl.map Prod.fst)) (walks_fz (g_fld (i := 0) rfl h1 SC.cl SC.nP rfl (⟨p, rfl, h2⟩ : (fzV (refs ks)).R (.ref p) H2))) (by rw [← List.length_map (f := Prod.fst), h4]; have := rR.few; omega) (fun _ => rfl) (fun _ => rfl) (fun y hy => t_test (tst y hy))) (fun y hy => h3 y (List.mem_filter.mp hy).1) (by rw [filter_fst (hasK (kl.map Prod.fst)), h4]; rfl) (rR.filter _).fine (by have := (rR.filter (hasK (kl.map Prod.fst))).few; exact Nat.lt_of_le_of_lt this (by decide)) (outs_ok (rR.filter _) fun c H' e hc => q c H' (e2.trans e) hc)
end
end Od

set_option Elab.async false
set_option linter.all false
set_option maxRecDepth 100000
set_option maxHeartbeats 4000000
/-! Order.place, Order.moved, of a pair that stands in the row. -/
namespace Od
open PySem PySem.NumText PySem.Spec PyProof.Rows L2 EvP Cm Fk DtE Tb Fi KSet Wd
open Dg hiding numT
/-- the row with k at the place j, the others as they were -/
def movK (R : List (List Key)) (k : List Key) (j : Nat) : List (List Key) := ((R.filter fun z => !decide (z = k)).take j) ++ k :: ((R.filter fun z => !decide (z = k)).drop j)
theorem filter_ne {R : List (List Key)} {k : List Key} (nd : R.Nodup) (h : k ∈ R) : (k :: R.filter fun z => !decide (z = k)).Perm R := by
  induction R with
  | nil => cases h
  | cons x R ih =>
    rw [List.nodup_cons] at nd
    by_cases e : x = k
    · subst e
      have : (x :: R).filter (fun z => !decide (z = x)) = R := by
        rw [List.filter_cons, decide_eq_true rfl]
        simp only [Bool.not_true, Bool.false_eq_true, if_false]
        exact List.filter_eq_self.mpr fun z hz => by
          rw [decide_eq_false (fun e : z = x => nd.1 (by rw [← e]; exact hz))]
          rfl
      rw [this]
    · have hk : k ∈ R := by
        rcases List.mem_cons.mp h with q | q
        · exact absurd q.symm e
        · exact q
      have : (x :: R).filter (fun z => !decide (z = k)) = x :: R.filter (fun z => !decide (z = k)) := by
        rw [List.filter_cons, decide_eq_false e]
        rfl
      rw [this]
      exact (List.Perm.swap x k _).trans ((ih nd.2 hk).cons x)
theorem movK_perm {R : List (List Key)} {k : List Key} {j : Nat} (nd : R.Nodup) (h : k ∈ R) : (movK R k j).Perm R := by
  unfold movK
  refine List.perm_middle.trans ?_
  rw [List.take_append_drop]
  exact filter_ne nd h
theorem RowO.perm {R S : List (List Key)} (h : RowO R) (p : S.Perm R) : RowO S := ⟨p.nodup_iff.mpr h.nod, fun k hk => h.fine k (p.mem_iff.mp hk), by rw [p.length_eq]; exact h.few⟩
theorem RowO.mov {R : List (List Key)} {k : List Key} {j : Nat} (h : RowO R) (hk : k ∈ R) : RowO (movK R k j) := h.perm (movK_perm h.nod hk)
theorem scPlace : FnScope ["self", "pair"] ["self", "pair"] (defScope (ometh 6)) := ⟨rfl, rfl, rfl, by decide +kernel, rfl, by decide +kernel, by decide +kernel⟩
abbrev NMv : List Str := ["self", "pair", "k", "others", "other"]
theorem scMoved : FnScope NMv ["self", "pair", "k"] (defScope (ometh 7)) := ⟨rfl, rfl, rfl, by decide +kernel, rfl, by decide +kernel, by decide +kernel⟩
def spOPlace (C : Addr) : Sp := fun vs H Q _ => ∃ a b R k j, vs = [.ref a, .ref b] ∧ OrdAt C H a R ∧ RowO R ∧ H b = some (.tup (k.map kV)) ∧ R[j]? = some k ∧ Q (.int (j : Nat)) H
def spOMoved (C : Addr) : Sp := fun vs H Q _ => ∃ a b R k j, vs = [.ref a, .ref b, .int (j : Nat)] ∧ OrdAt C H a R ∧ RowO R ∧ H b = some (.tup (k.map kV)) ∧ k ∈ R ∧ j < R.length ∧ ∀ c H', Ex H H' → OrdAt C H' c (movK R k j) → Q (.ref c) H'
section
variable {P : Program} {w : World} {K : PySem.W.Frag} {mg : Str → Option Value} {base : Heap} {C CO CT f fI fOf pOf : Addr} {fd fdI fdOf : FuncData}
theorem has_at {R : List (List Key)} {k : List Key} {j : Nat} (h : R[j]? = some k) : hasK R k = true := hasK_iff.mpr (List.mem_of_getElem? h)
theorem first_at {R : List (List Key)} {k : List Key} {j : Nat} (nd : R.Nodup) (h : R[j]? = some k) : ∀ (m : Nat) (z : List Key), m < j → R[m]? = some z → z ≠ k := fun m z hm hz e => by
  subst e
  obtain ⟨h1, e1⟩ := List.getElem?_eq_some_iff.mp h
  obtain ⟨h2, e2⟩ := List.getElem?_eq_some_iff.mp hz
  have := (List.nodup_iff_pairwise_ne.mp nd)
  have q := List.pairwise_iff_getElem.mp this m j h2 h1 hm
  exact q (e2.trans e1.symm)
theorem ok_oplace (F : Fun K "place" "Order.place" (ometh 6) f fd) (SC : OrdC K C) : FnOk P w K mg base CX0 1 f fd ["self", "pair"] (spOPlace C) := by
  have nd := scPlace.nd
  refine F.ok scPlace (fun vs H Q E h => ?_) (fun cdv A outer s H vs Q E hr h => ?_)
  · obtain ⟨a, b, R, k, j, rfl, _⟩ := h
    rfl
  · obtain ⟨a, b, R, k, j, rfl, oa, rR, hb, hj, q⟩ := h
    refine ⟨_, pss_cons (ps_if (pt_cmpR (op_notInT (hu65 hr)) (pv 1) (pe_fld (pv 0) rfl) (by rfl)) pss_dead pss_nil)
      (pss_one (ps_ret (pe_bmZ PySem.F.plainAttrs_tuple PySem.F.slot_tuple_index PySem.F.type_tuple_index (mt_indexT (hu65 hr)) (pe_fld (pv 0) rfl) (pa_cons (pv 1) pa_nil)))), ?_⟩
    have gk := rR.fine k (List.mem_of_getElem? hj)
    have hk := has_at hj
    obtain ⟨dx, p, ks, h1, h2, h3, h4⟩ := id oa
    refine ⟨_, rfl, _, rfl, a, C, dx, _, _, rfl, h1, SC.cl, SC.nP, rfl, keyD k, R.map keyD, .tup (SqT.of hb) (dp_key k), .tup h2.sq (by rw [← h4]; exact dp_refs h3), shaped_key gk, shaped_tup rR.fine, ?_⟩
    rw [any_key rR.fine gk, hk]
    refine ⟨false, rfl, ?_⟩
    refine ⟨_, rfl, a, C, dx, _, _, rfl, h1, SC.cl, SC.nP, rfl, ⟨p, _, rfl, h2⟩, _, rfl, p, .ref b, keyD k, R.map keyD, j, keyD k, rfl, rfl, .tup h2.sq (by rw [← h4]; exact dp_refs h3), .tup (SqT.of hb) (dp_key k), shaped_tup rR.fine, shaped_key gk, by rw [List.getElem?_map, hj]; rfl, ?_, fun m z hm hz => ?_, q⟩
    · rw [eqv_key gk gk, decide_eq_true rfl]
    · rw [List.getElem?_map] at hz
      obtain ⟨y, hy, rfl⟩ := Option.map_eq_some_iff.mp hz
      rw [eqv_key (rR.fine y (List.mem_of_getElem? hy)) gk, decide_eq_false (first_at rR.nod hj m y hm hy)]
end
end Od

set_option Elab.async false
set_option linter.all false
set_option maxRecDepth 100000
set_option maxHeartbeats 4000000
/-! Order.moved. -/
namespace Od
open PySem PySem.NumText PySem.Spec PyProof.Rows L2 EvP Cm Fk DtE Tb Fi KSet Wd
open Dg hiding numT
section
variable {P : Program} {w : World} {K : PySem.W.Frag} {mg : Str → Option Value} {base : Heap} {C CO CT f fI fOf pOf : Addr} {fd fdI fdOf : FuncData}
theorem cut_to {xs : List V} {j : Nat} (h : j ≤ xs.length) : cutV xs none (some (j : Nat)) = xs.take j := by
  have z : ¬ ((j : Nat) : Int) < 0 := by omega
  unfold cutV HT.sIx
  simp [h, z]
theorem cut_from {xs : List V} {j : Nat} (h : j ≤ xs.length) : cutV xs (some (j : Nat)) none = xs.drop j := by
  have z : ¬ ((j : Nat) : Int) < 0 := by omega
  unfold cutV HT.sIx
  simp [h, z]
  exact List.take_of_length_le (by rw [List.length_drop]; omega)
theorem ok_omoved (F : Fun K "moved" "Order.moved" (ometh 7) f fd) (SC : OrdC K C) (T : Fk.Blt mg) (gO : mg "Order" = some (.ref C)) (GI : FnOk P w K mg base CX0 1 fI fdI ["value", "least"] (spInteger K)) (bI : Binds K fdI ["value", "least"] []) (gI : mg "is_integer" = some (.ref fI)) (kI : PySem.W.keepIn K (.ref fI) = true)
    (r : ClX.CRead K C (.type "type")) (c : ClX.CMet K C (.type "type") "of" pOf fOf) (GO2 : FnOk P w K mg base (L2.CX P w) 6 fOf fdOf ["cls", "pairs"] (spOOf K C CO CT)) (bOf : Binds K fdOf ["cls", "pairs"] []) : FnOk P w K mg base CX0 7 f fd ["self", "pair", "k"] (spOMoved C) := by
  have nd := scMoved.nd
  refine F.ok scMoved (fun vs H Q E h => ?_) (fun cdv A outer s H vs Q E hr h => ?_)
  · obtain ⟨a, b, R, k, j, rfl, _⟩ := h
    rfl
  · obtain ⟨a, b, R, k, j, rfl, oa, rR, hb, hk, hj, q⟩ := h
    refine ⟨_, pss_cons (ps_if (pt_cmpR (op_notInT (hu65 hr)) (pv 1) (pe_fld (pv 0) rfl) (by rfl)) pss_dead pss_nil)
      (pss_cons (ps_if (PW.pt (pw_or (pt_not (pt_val (pe_call GI (hr.mono (by decide)) (by rfl) gI kI bI .nil pass0 (pa_cons (pv 2) (pa_cons pe_int pa_nil))))) (pw_or1 (pt_cmpR op_ge (pv 2) (pe_callB call_len_seq (by rfl) T.len PySem.boot_len (pa_cons (pe_fld (pv 0) rfl) pa_nil)) (nomark _))))) pss_dead pss_nil)
      (pss_cons (ps_setLc (i := 3) (own := [("other", 4)]) (g := gName 4) (tt := tTest (tOp (rNeD K) (tVar 4) (tVar 1))) (te := tVar 4) rfl nd rfl rfl (by rfl) (pi_tup (pe_fld (pv 0) rfl)) (blkOk_by (N := NMv) (sc := defScope (ometh 7)) (by decide +kernel))
        (fun _ _ _ _ _ => by exact pg_name (i := 4) nd rfl (Or.inl rfl)) (fun _ _ _ _ _ => by exact pts_one (pt_cmpR (op_neD hr.units) (pv 4) (pv 1) (nomark _))) (fun _ _ _ _ _ => by exact pv 4))
      (pss_one (ps_ret (ClX.pe_cmeth (E := E0) (pe_glob (v := .ref C) (by rfl) gO rfl) r c (FnOk.toR GO2 bOf) hr passL (pa_cons (pe_lst (StX.pa_star (pe_slice sl_list (pv 3) po_none (po_some (pv 2))) (pa_cons (pv 1) (StX.pa_star (pe_slice sl_list (pv 3) (po_some (pv 2)) po_none) pa_nil)))) pa_nil)))))), ?_⟩
    have gk := rR.fine k hk
    have hkt := hasK_iff.mpr hk
    obtain ⟨dx, p, ks, h1, h2, h3, h4⟩ := id oa
    have lk : ks.length = R.length := by rw [← h4, List.length_map]
    have few := rR.few
    have lr : (refs ks).length = ks.length := List.length_map ..
    have tk : ∀ {H1 : Hp}, Ex H H1 → EvP.Gives (tOp (rNotInT K) (tVar 1) (tFld K (tVar 0) "pairs")) [some (.ref a), some (.ref b), some (.int (j : Nat)), none, none] H1 (is (.bl false)) := fun e => by
      have z := g_notInT (K := K) (te := tFld K (tVar 0) "pairs") (σ := [some (.ref a), some (.ref b), some (.int (j : Nat)), none, none]) (i := 1) rfl (e _ _ hb) gk (g_pairs SC (EvP.varP (i := 0) rfl (⟨a, rfl, oa.mono e⟩ : (ordP C R).R (.ref a) _))) rR.fine (by omega)
      rw [hkt] at z
      exact z
    refine st_ifF (t_test (tk (Ex.refl _))) fun H1 e1 => ?_
    refine st_ifF (t_or (t_not (b := true) (t_val fun H2 e2 Q2 q2 => ⟨_, rfl, _, 0, rfl, .inl ⟨_, rfl, ?_⟩⟩)) (t_test fun H2 e2 Q2 q2 => ?_)) fun H2 e2 => ?_
    · rw [decide_eq_true (show (0 : Int) ≤ (j : Nat) by omega)]
      exact q2 _ _ (Ex.refl _) rfl
    · refine ⟨_, rfl, _, rfl, a, C, dx, _, _, rfl, e2 _ _ (e1 _ _ h1), SC.cl, SC.nP, rfl, p, refs ks, rfl, .inr (h2.ex (e1.trans e2)).sq, _, _, rfl, rfl, ?_⟩
      show Q2 (.bl (decide ((((refs ks).length : Nat) : Int) ≤ (j : Nat)))) H2
      rw [decide_eq_false (show ¬ (((refs ks).length : Nat) : Int) ≤ (j : Nat) by rw [lr, lk]; omega)]
      exact q2 _ _ (Ex.refl _) rfl
    have e12 := e1.trans e2
    have nek : ∀ y ∈ ks, EvP.Gives (tOp (rNeD K) (tVar 4) (tVar 1)) [some (.ref a), some (.ref b), some (.int (j : Nat)), none, some (.ref y.2)] H2 (is (.bl (!decide (y.1 = k)))) := fun y hy H3 e3 Q3 q3 => by
      have gy := rR.fine y.1 (by rw [← h4]; exact List.mem_map_of_mem hy)
      refine ⟨_, rfl, _, rfl, keyD y.1, keyD k, .tup (SqT.of (e3 _ _ (e12 _ _ (h3 y hy)))) (dp_key y.1), .tup (SqT.of (e3 _ _ (e12 _ _ hb))) (dp_key k), shaped_key gy, shaped_key gk, ?_⟩
      rw [eqv_key gy gk]
      exact q3 _ _ (Ex.refl _) rfl
    refine EvP.st_set (compK (wi := iTup K (tFld K (tVar 0) "pairs")) (i := 4) (vs := [4]) (ks := ks) (fun z => !decide (z = k)) (walks_fz (g_fld (i := 0) rfl (e12 _ _ h1) SC.cl SC.nP rfl (⟨p, rfl, h2.ex e12⟩ : (fzV (refs ks)).R (.ref p) H2))) (by omega) (fun _ => rfl) (fun _ => rfl) (fun y hy => t_test (nek y hy))) fun v H3 e3 ⟨l, ev, hl⟩ => ?_
    subst ev
    have e13 := e12.trans e3
    generalize hfl : (ks.filter fun y => !decide (y.1 = k)) = fl at hl
    have efl : fl.map Prod.fst = R.filter fun z => !decide (z = k) := by
      rw [← hfl, filter_fst (fun z => !decide (z = k)), h4]
    have lfl : (refs fl).length + 1 = R.length := by
      have z := (filter_ne rR.nod hk).length_eq
      rw [← efl, List.length_cons, List.length_map] at z
      unfold refs
      rw [List.length_map]
      exact z
    have lief : Lie H3 fl := fun y hy => e13 _ _ (h3 y (List.mem_filter.mp (by rw [← hfl] at hy; exact hy)).1)
    have rm := rR.mov (j := j) hk
    refine of_list (K := K) (C := C) (CO := CO) (CT := CT) (R := movK R k j) (ks := fl.take j ++ (k, b) :: fl.drop j) (fun H4 e4 Q4 q4 => ?_) (fun y hy => ?_) ?_ rm.fine (by have := rm.few; omega) (outs_ok rm fun c' H' e' hc => q c' H' (e13.trans e') hc)
    · refine ⟨.ref l, rfl, _, rfl, _, rfl, l, _, rfl, SqL.of (e4 _ _ hl), fun p1 hp1 => ⟨p1, _, rfl, .inr (SqL.of upd_same), _, rfl, _, rfl, _, rfl, _, rfl, l, _, rfl, SqL.of (Ex.new hp1 _ _ (e4 _ _ hl)), fun p2 hp2 => ⟨p2, _, rfl, .inr (SqL.of upd_same), ?_, fun p3 hp3 => ?_⟩⟩⟩
      · rw [List.length_append, List.length_cons, List.length_append]
        have l1 := cutV_length (refs fl) none (some (j : Nat))
        have l2 := cutV_length (refs fl) (some (j : Nat)) none
        rw [sizeLine_eq]
        show _ + (_ + 0 + 1) ≤ _
        omega
      · refine q4 _ _ (((Ex.new hp1).trans (Ex.new hp2)).trans (Ex.new hp3)) ⟨p3, rfl, ?_⟩
        rw [upd_same, cut_to (by omega), cut_from (by omega)]
        unfold refs
        rw [List.map_append, List.map_cons, List.map_take, List.map_drop, List.append_nil]
    · rcases List.mem_append.mp hy with hy | hy
      · exact lief y (List.mem_of_mem_take hy)
      · rcases List.mem_cons.mp hy with rfl | hy
        · exact e13 _ _ hb
        · exact lief y (List.mem_of_mem_drop hy)
    · rw [List.map_append, List.map_cons, List.map_take, List.map_drop, efl]
      rfl
end
end Od

set_option Elab.async false
set_option linter.all false
set_option maxRecDepth 100000
set_option maxHeartbeats 4000000
namespace Wd
open PySem PySem.NumText PySem.Spec PyProof.Rows L2 EvP Cm Fk
theorem butx_none {C a dx l g : Addr} {H H1 : Hp} {ww : List Str} {i : Nat} (h1 : WdAt C H1 a dx l ww i) (bt : ButX a H H1) (n : H1 g = none) : H g = none := by
  cases z : H g with
  | none => rfl
  | some o =>
    exfalso
    by_cases e : g = a
    · rw [e, h1.at_] at n
      cases n
    · rw [bt g o z e] at n
      cases n
theorem butx_new {a g : Addr} {o : HO} {H H1 : Hp} (bt : ButX a H H1) (n : H g = none) : ButX a H (upd H1 g o) := fun b o' hb ne => by
  rw [upd_ne (ne_of_none hb n)]
  exact bt b o' hb ne
theorem butx_at {a : Addr} {o : HO} {H H1 : Hp} (bt : ButX a H H1) : ButX a H (upd H1 a o) := fun b o' hb ne => by
  rw [upd_ne ne]
  exact bt b o' hb ne
theorem butx_ex {a : Addr} {H H1 H2 : Hp} (bt : ButX a H H1) (e : Ex H1 H2) : ButX a H H2 := fun b o' hb ne => e _ _ (bt b o' hb ne)
theorem butx_trans {a : Addr} {H H1 H2 : Hp} (bt : ButX a H H1) (e : ButX a H1 H2) : ButX a H H2 := fun b o' hb ne => e _ _ (bt b o' hb ne) ne
end Wd

set_option Elab.async false
set_option linter.all false
set_option maxRecDepth 100000
set_option maxHeartbeats 4000000
/-! _law_mixed: a list in a drawn order. -/
namespace Od
open PySem PySem.NumText PySem.Spec PyProof.Rows L2 EvP Cm Fk DtE Tb Fi KSet Wd
open K19 (Pen But spPick spDraw)
open Dg hiding numT
/-- a place of a list, and what its value is as data -/
abbrev Item := V × PyData
def vals (l : List Item) : List V := l.map Prod.fst
def dats (l : List Item) : List PyData := l.map Prod.snd
/-- what stays data while lists are changed -/
def Solid (K : PySem.W.Frag) (H : Hp) (x : Item) : Prop := (∃ s, x = (.str s, .str s)) ∨ ∃ (a : Addr) (k : List Key), x = (.ref a, keyD k) ∧ H a = some (.tup (k.map kV))
theorem Solid.dp {K : PySem.W.Frag} {H : Hp} {x : Item} (h : Solid K H x) : Dp K H x.1 x.2 := by
  rcases h with ⟨s, rfl⟩ | ⟨a, k, rfl, h⟩
  · exact .str s
  · exact .tup (SqT.of h) (dp_key k)
theorem Solid.dpAll {K : PySem.W.Frag} {H : Hp} : ∀ {l : List Item}, (∀ x ∈ l, Solid K H x) → DpAll K H (vals l) (dats l)
  | [], _ => .nil
  | x :: l, h => .cons (h x (.head _)).dp (Solid.dpAll fun y hy => h y (.tail _ hy))
theorem Solid.ex {K : PySem.W.Frag} {H H' : Hp} {x : Item} (e : Ex H H') (h : Solid K H x) : Solid K H' x := by
  rcases h with h | ⟨a, k, e1, h⟩
  · exact .inl h
  · exact .inr ⟨a, k, e1, e _ _ h⟩
theorem Solid.upd {K : PySem.W.Frag} {H : Hp} {x : Item} {l : Addr} {xs : List V} {o : HO} (hl : H l = some (.lst xs)) (h : Solid K H x) : Solid K (upd H l o) x := by
  rcases h with h | ⟨a, k, e1, h⟩
  · exact .inl h
  · exact .inr ⟨a, k, e1, by rw [upd_ne (ne_of h hl fun z => nomatch z)]; exact h⟩
theorem Solid.but {K : PySem.W.Frag} {H H' : Hp} {x : Item} {l : Addr} {xs : List V} (hl : H l = some (.lst xs)) (b : But l H H') (h : Solid K H x) : Solid K H' x := by
  rcases h with h | ⟨a, k, e1, h⟩
  · exact .inl h
  · exact .inr ⟨a, k, e1, b _ _ h (ne_of h hl fun z => nomatch z)⟩
/-- data that can be laid, not deep -/
def Flat (x : Item) : Prop := PyData.canLay0 x.2 = true ∧ PyData.depth x.2 ≤ 1
theorem flat_shaped {l : List Item} (h : ∀ x ∈ l, Flat x) : SeqAt.shaped (.list (dats l)) = true := by
  have a : PyData.canLayAll0 (dats l) = true ∧ PyData.depthAll (dats l) ≤ 1 := by
    induction l with
    | nil => exact ⟨rfl, Nat.zero_le _⟩
    | cons x r ih =>
      obtain ⟨i1, i2⟩ := ih fun y hy => h y (.tail _ hy)
      obtain ⟨j1, j2⟩ := h x (.head _)
      refine ⟨?_, ?_⟩
      · show (PyData.canLay0 x.2 && PyData.canLayAll0 (dats r)) = true
        rw [j1, i1]
        rfl
      · show max (PyData.depth x.2) (PyData.depthAll (dats r)) ≤ 1
        omega
  show (PyData.canLayAll0 (dats l) && decide (PyData.depthAll (dats l) + 1 ≤ 64)) = true
  rw [a.1, decide_eq_true (by omega)]
  rfl
theorem vals_erase : ∀ (l : List Item) (i : Nat), (vals l).eraseIdx i = vals (l.eraseIdx i)
  | [], _ => rfl
  | _ :: _, 0 => rfl
  | x :: l, i + 1 => congrArg (x.1 :: ·) (vals_erase l i)
theorem dats_nil (l : List Item) : PyData.eqv (.list (dats l)) (.list []) = l.isEmpty := by
  cases l <;> rfl
abbrev sMixed : Stmt := top 55
abbrev NMi : List Str := ["pen", "some", "left", "found"]
theorem scMixed : FnScope NMi ["pen", "some"] (defScope sMixed) := ⟨rfl, rfl, rfl, by decide +kernel, rfl, by decide +kernel, by decide +kernel⟩
def spMixed (K : PySem.W.Frag) : Sp := fun vs H Q _ => ∃ (p q : Addr) (ns : List Int) (s g : Int) (l : Addr) (its : List Item), vs = [.ref p, .ref l] ∧ Pen H p q ns s g ∧ ns.length ≤ 63 ∧ 0 ≤ s ∧ s < 99000 ∧ H l = some (.lst (vals its)) ∧ l ≠ p ∧ its.length ≤ 100 ∧ (∀ x ∈ its, Solid K H x ∧ Flat x) ∧
  ∀ (f : Addr) (fnd : List Item) (s' g' : Int) (H' : Hp), fnd.Perm its → H f = none → H' f = some (.lst (vals fnd)) → s ≤ s' → s' ≤ s + (its.length : Int) → Pen H' p q ns s' g' → But p H H' → Q (.ref f) H'
section
variable {P : Program} {w : World} {K : PySem.W.Frag} {mg : Str → Option Value} {base : Heap} {f fD : Addr} {fd fdD : FuncData}
theorem ok_mixed (F : Fun K "_law_mixed" "_law_mixed" sMixed f fd) (T : K19.Blt mg) (hL : mg "list" = none) (G : FnOk P w K mg base CX0 1 fD fdD ["pen", "many"] spDraw) (b : Binds K fdD ["pen", "many"] []) (gD : mg "_law_draw" = some (.ref fD)) (kD : PySem.W.keepIn K (.ref fD) = true) : FnOk P w K mg base CX0 3 f fd ["pen", "some"] (spMixed K) := by
  have nd := scMixed.nd
  refine F.ok scMixed (fun vs H Q E h => ?_) (fun cdv A outer s0 H vs Q E hr h => ?_)
  · obtain ⟨p, q, ns, s, g, l, its, rfl, _⟩ := h
    rfl
  · obtain ⟨p, q, ns, s, g, l0, its, rfl, hP, hl, h0, h1, hl0, lp0, few, ok, k⟩ := h
    refine ⟨_, pss_cons (ps_par (i := 2) (j := 3) (by rfl) nd rfl rfl (by decide) rfl rfl (pa_cons (pe_callTy (T := "list") call_list_of (by rfl) hL (by decide +kernel) (pa_cons (pv 1) pa_nil)) (pa_cons (pe_lst pa_nil) pa_nil)) (by rfl))
      (pss_cons (ps_while PassesOwn.never (pt_cmpR (op_neD hr.units) (pv 2) (pe_lst pa_nil) (nomark _))
        (pss_one (ps_expr (pe_bm PySem.F.plainAttrs_list PySem.F.slot_list_append PySem.F.type_list_append mt_append (pv 3) (pa_cons (pe_bm PySem.F.plainAttrs_list PySem.F.slot_list_pop PySem.F.type_list_pop mt_popAt (pv 2) (pa_cons (pe_call G (hr.mono (by decide)) (by rfl) gD kD b .nil pass0 (pa_cons (pv 0) (pa_cons (pe_callB call_len_seq (by rfl) T.len PySem.boot_len (pa_cons (pv 2) pa_nil)) pa_nil))) pa_nil)) pa_nil)))))
      (pss_one (ps_ret (pv 3)))), ?_⟩
    refine ⟨_, rfl, l0, _, rfl, .inl (SqL.of hl0), fun L nL => ⟨by show 0 ≤ sizeLine; decide, fun R nR => ⟨_, _, rfl, ?_⟩⟩⟩
    have eL := Ex.new (o := .lst (vals its)) nL
    have eR := Ex.new (o := .lst []) nR
    have LR : L ≠ R := ne_of_none (H := upd H L (.lst (vals its))) upd_same nR
    have HR : H R = none := by
      cases hh : H R with
      | none => rfl
      | some o =>
        rw [eL _ _ hh] at nR
        cases nR
    have Lp : L ≠ p := (ne_of_none hP.p nL).symm
    have Lq : L ≠ q := (ne_of_none hP.q nL).symm
    have Rp : R ≠ p := (ne_of_none hP.p HR).symm
    have Rq : R ≠ q := (ne_of_none hP.q HR).symm
    have e0 := eL.trans eR
    refine ⟨fun μ σ H' => ∃ (rem fnd : List Item) (s6 g6 : Int), μ = rem.length ∧ σ = [some (.ref p), some (.ref l0), some (.ref L), some (.ref R)] ∧ H' L = some (.lst (vals rem)) ∧ H' R = some (.lst (vals fnd)) ∧ (∀ x ∈ its, Solid K H' x) ∧
      (fnd ++ rem).Perm its ∧ s ≤ s6 ∧ s6 ≤ s + (fnd.length : Int) ∧ Pen H' p q ns s6 g6 ∧ But p H H', ⟨_, its, [], s, g, rfl, rfl, eR _ _ upd_same, upd_same, fun x hx => (ok x hx).1.ex e0, List.Perm.refl _, by omega, by show s ≤ s + 0; omega, ⟨e0 _ _ hP.p, e0 _ _ hP.q⟩, fun b o hb nb => e0 _ _ hb⟩, fun μ σ H6 hW => ?_⟩
    obtain ⟨rem, fnd, s6, g6, rfl, rfl, r1, r3, so, r5, r6, r7, hP6, hB6⟩ := hW
    have inR : ∀ x ∈ rem, x ∈ its := fun x hx => r5.mem_iff.mp (List.mem_append_right _ hx)
    have ln := r5.length_eq
    rw [List.length_append] at ln
    refine ⟨_, rfl, by show 0 ≤ sizeLine; decide, fun e he => ?_⟩
    have ee := Ex.new (o := .lst []) he
    refine ⟨.list (dats rem), .list [], .lst (SqL.of (ee _ _ r1)) (Solid.dpAll fun x hx => (so x (inR x hx)).ex ee), .lst (SqL.of upd_same) .nil, flat_shaped fun x hx => (ok x (inR x hx)).2, by decide +kernel, _, rfl, ?_⟩
    rw [dats_nil]
    have hP7 : Pen (upd H6 e (.lst [])) p q ns s6 g6 := ⟨ee _ _ hP6.p, ee _ _ hP6.q⟩
    have hB7 : But p H (upd H6 e (.lst [])) := fun b o hb nb => ee _ _ (hB6 b o hb nb)
    have r1' := ee _ _ r1
    have r3' := ee _ _ r3
    have so' : ∀ x ∈ its, Solid K (upd H6 e (.lst [])) x := fun x hx => (so x hx).ex ee
    generalize upd H6 e (.lst []) = H7 at hP7 hB7 r1' r3' so' ⊢
    cases rem with
    | nil =>
      show (if (!true) = true then _ else _)
      rw [if_neg (by decide)]
      rw [List.append_nil] at r5
      exact ⟨_, rfl, k R fnd s6 g6 H7 r5 HR r3' r6 (by rw [r5.length_eq] at r7; exact r7) hP7 hB7⟩
    | cons k0 rem0 =>
      show (if (!false) = true then _ else _)
      rw [if_pos (by decide)]
      generalize hrem : k0 :: rem0 = rem at r1' r5 ln inR ⊢
      have rl : 0 < rem.length := by rw [← hrem]; exact Nat.succ_pos _
      have lL : (vals rem).length = rem.length := List.length_map ..
      have lF : (vals fnd).length = fnd.length := List.length_map ..
      refine ⟨fun σ' H' => ∃ m' : Nat, m' < rem.length ∧ ∃ (rem' fnd' : List Item) (s6 g6 : Int), m' = rem'.length ∧ σ' = [some (.ref p), some (.ref l0), some (.ref L), some (.ref R)] ∧ H' L = some (.lst (vals rem')) ∧ H' R = some (.lst (vals fnd')) ∧ (∀ x ∈ its, Solid K H' x) ∧
        (fnd' ++ rem').Perm its ∧ s ≤ s6 ∧ s6 ≤ s + (fnd'.length : Int) ∧ Pen H' p q ns s6 g6 ∧ But p H H', fun σ' H' h => h, ?_⟩
      refine ⟨_, rfl, .inl ⟨rfl, _, SqL.of r3'⟩, _, rfl, .inl ⟨rfl, _, SqL.of r1'⟩, _, rfl, _, rfl, L, _, rfl, .inl (SqL.of r1'), p, q, ns, s6, g6, _, rfl, hP7, hl, by omega, by omega, by rw [lL]; omega, by rw [lL]; omega, fun m s8 g8 H8 m0 m1 d0 d1 hP8 hB8 => ?_⟩
      rw [lL] at m1
      have kl : m.toNat < rem.length := by omega
      have l8 := hB8 L _ r1' Lp
      have f8 := hB8 R _ r3' Rp
      have so8 : ∀ x ∈ its, Solid K H8 x := fun x hx => (so' x hx).but hP7.p hB8
      have six : seqIndex? m (vals rem).length = some m.toNat := by
        rw [lL]
        simp [seqIndex?, show ¬ m < 0 by omega, m0, show m < (rem.length : Nat) by omega]
      have hit : (vals rem)[m.toNat]? = some rem[m.toNat].1 := by
        unfold vals
        rw [List.getElem?_map, List.getElem?_eq_getElem kl]
        rfl
      refine ⟨L, vals rem, m, m.toNat, _, rfl, rfl, l8, by omega, by omega, six, hit, ?_⟩
      have f9 : upd H8 L (.lst ((vals rem).eraseIdx m.toNat)) R = some (.lst (vals fnd)) := by rw [upd_ne LR.symm]; exact f8
      refine ⟨R, vals fnd, rem[m.toNat].1, rfl, rfl, f9, by rw [sizeLine_eq]; omega, rem.length - 1, by omega, rem.eraseIdx m.toNat, fnd ++ [rem[m.toNat]], s8, g8, ?_, rfl, ?_, ?_, ?_, ?_, by omega, ?_, ?_, ?_⟩
      · rw [List.length_eraseIdx_of_lt kl]
      · rw [upd_ne LR, upd_same]
        rw [vals_erase]
      · rw [upd_same]
        unfold vals
        rw [List.map_append]
        rfl
      · exact fun x hx => ((so8 x hx).upd l8).upd f9
      · rw [List.append_assoc]
        exact (List.Perm.append_left _ (erase_perm rem _ kl)).trans r5
      · rw [List.length_append]
        show s8 ≤ s + ((fnd.length + 1 : Nat) : Int)
        omega
      · exact ⟨by rw [upd_ne Rp.symm, upd_ne Lp.symm]; exact hP8.p, by rw [upd_ne Rq.symm, upd_ne Lq.symm]; exact hP8.q⟩
      · intro b o hb nb
        rw [upd_ne (ne_of_none hb HR), upd_ne (ne_of_none hb nL)]
        exact hB8 b o (hB7 b o hb nb) nb
end
end Od

set_option Elab.async false
set_option linter.all false
set_option maxRecDepth 100000
set_option maxHeartbeats 4000000
/-! _law_row: some pairs, each once, in a drawn order. -/
namespace Od
open PySem PySem.NumText PySem.Spec PyProof.Rows L2 EvP Cm Fk DtE Tb Fi KSet Wd
open K19 (Pen But spPick spDraw)
open Dg hiding numT
theorem perm_map {α β : Type} (f : α → β) : ∀ {l : List β} {l0 : List α}, l.Perm (l0.map f) → ∃ l' : List α, l'.Perm l0 ∧ l = l'.map f
  | [], l0, h => by
    have e : l0 = [] := by
      have := h.length_eq
      rw [List.length_map] at this
      exact List.length_eq_zero_iff.mp this.symm
    exact ⟨[], by rw [e], rfl⟩
  | x :: r, l0, h => by
    obtain ⟨a, ha, rfl⟩ := List.mem_map.mp (h.mem_iff.mp (.head _))
    obtain ⟨s, t, rfl⟩ := List.append_of_mem ha
    have z : (s ++ a :: t).Perm (a :: (s ++ t)) := List.perm_middle
    have h2 : r.Perm ((s ++ t).map f) := List.Perm.cons_inv (h.trans (z.map f))
    obtain ⟨r', p, rfl⟩ := perm_map f h2
    exact ⟨a :: r', (p.cons a).trans z.symm, rfl⟩
theorem all2_refs {H : Hp} : ∀ {ks : List (List Key)} {vs : List V}, All2 H (ks.map isK) vs → ∃ kas, vs = refs kas ∧ kas.map Prod.fst = ks ∧ Lie H kas
  | [], _, .nil => ⟨[], rfl, rfl, fun y hy => by cases hy⟩
  | k :: ks, _, .cons ⟨a, ev, ha⟩ r => by
    obtain ⟨kas, e1, e2, l⟩ := all2_refs r
    subst ev e1 e2
    exact ⟨(k, a) :: kas, rfl, rfl, fun y hy => by
      rcases List.mem_cons.mp hy with rfl | hy
      · exact ha
      · exact l y hy⟩
def crossO (ones twos : List Str) : List (List Key) := ones.flatMap fun a => twos.map fun t => key2 a t
theorem crossO_snoc (os ts : List Str) (a : Str) : crossO (os ++ [a]) ts = crossO os ts ++ ts.map fun t => key2 a t := by
  unfold crossO
  rw [List.flatMap_append]
  simp
theorem key2_inj {a b x y : Str} (h : key2 a x = key2 b y) : a = b ∧ x = y := by
  unfold key2 at h
  exact ⟨Sum.inr.inj (List.cons.inj h).1, Sum.inr.inj (List.cons.inj (List.cons.inj h).2).1⟩
theorem crossO_mem {os ts : List Str} {k : List Key} (h : k ∈ crossO os ts) : ∃ a ∈ os, ∃ t ∈ ts, k = key2 a t := by
  unfold crossO at h
  obtain ⟨a, ha, h⟩ := List.mem_flatMap.mp h
  obtain ⟨t, ht, rfl⟩ := List.mem_map.mp h
  exact ⟨a, ha, t, ht, rfl⟩
theorem crossO_nod {ts : List Str} (ht : ts.Nodup) : ∀ {os : List Str}, os.Nodup → (crossO os ts).Nodup
  | [], _ => .nil
  | a :: os, h => by
    have ih := crossO_nod ht (List.nodup_cons.mp h).2
    show ((ts.map fun t => key2 a t) ++ crossO os ts).Nodup
    rw [List.nodup_append]
    refine ⟨?_, ih, fun k hk k' hk' e => ?_⟩
    · exact List.pairwise_map.mpr (ht.imp fun n e => n (key2_inj e).2)
    · obtain ⟨t, _, rfl⟩ := List.mem_map.mp hk
      obtain ⟨b, hb, t', _, rfl⟩ := crossO_mem hk'
      rw [(key2_inj e).1] at h
      exact (List.nodup_cons.mp h).1 hb
theorem crossO_len (os ts : List Str) : (crossO os ts).length = os.length * ts.length := by
  induction os with
  | nil => simp [crossO]
  | cons a os ih =>
    show ((ts.map fun t => key2 a t) ++ crossO os ts).length = (os.length + 1) * ts.length
    rw [List.length_append, ih, List.length_map, Nat.succ_mul]
    omega
def base8 : List Str := ["a", "b", "c", "d", "nones", "zzzzzzzz", "x", "y"]
theorem base8_ok : base8.Nodup ∧ ∀ x ∈ base8, nameB x = true := by decide +kernel
theorem base8_late : ∀ x ∈ base8, x ≠ ("late" : Str) := by decide +kernel
def itS (s : Str) : Item := (.str s, .str s)
theorem vals_strs (ss : List Str) : vals (ss.map itS) = ss.map V.str := by
  unfold vals
  rw [List.map_map]
  rfl
theorem flat_str {s : Str} (h : PyData.strOk s = true) : Flat (itS s) := ⟨h, Nat.zero_le _⟩
def itK (y : List Key × Addr) : Item := (.ref y.2, keyD y.1)
theorem vals_keys (ks : List (List Key × Addr)) : vals (ks.map itK) = refs ks := by
  unfold vals refs
  rw [List.map_map]
  rfl
theorem flat_key {y : List Key × Addr} (h : GoodP y.1) : Flat (itK y) := by
  obtain ⟨a, x, e, ha, hx⟩ := h
  obtain ⟨k, ad⟩ := y
  subst e
  refine ⟨?_, by show max 0 (max 0 0) + 1 ≤ 1; decide⟩
  show (PyData.strOk a && (PyData.strOk x && true)) = true
  rw [strOk_name ha, strOk_name hx]
  rfl
/-- pairs of an order that the law draws -/
structure GoodO (ks : List (List Key)) : Prop where
  nod : ks.Nodup
  key : Fine ks
  few : ks.length ≤ 36
  late : key2 "late" "x" ∉ ks
abbrev sRowO : Stmt := top 56
abbrev NRo : List Str := ["pen", "some", "cells", "there", "one", "other"]
theorem scRowO : FnScope NRo ["pen"] (defScope sRowO) := ⟨rfl, rfl, rfl, by decide +kernel, rfl, by decide +kernel, by decide +kernel⟩
def spRowO : Sp := fun vs H Q _ => ∃ (p q : Addr) (ns : List Int) (s g : Int), vs = [.ref p] ∧ Pen H p q ns s g ∧ ns.length ≤ 63 ∧ 0 ≤ s ∧ s < 90000 ∧
  ∀ (f : Addr) (ks : List (List Key × Addr)) (s' g' : Int) (H' : Hp), GoodO (ks.map Prod.fst) → H f = none → H' f = some (.lst (refs ks)) → Lie H' ks → s ≤ s' → s' ≤ s + 60 → Pen H' p q ns s' g' → But p H H' → Q (.ref f) H'
theorem g_catP {σ : L2.St} {H : Hp} {ta tb : TE} {Ps Qs : List PR} (h : EvP.Gives ta σ H (lstA Ps)) (k : EvP.Gives tb σ H (lstA Qs)) (hz : Ps.length + Qs.length ≤ 1000) : EvP.Gives (tOp rCat ta tb) σ H (lstA (Ps ++ Qs)) :=
  g_op h k fun x y H1 e ⟨a, vs, ex, ha, al⟩ ⟨b, ws, ey, hb, bl⟩ Q q => ⟨a, b, vs, ws, ex, ey, ha, hb, by rw [al.length, bl.length, sizeLine_eq]; omega, fun p hp => q _ _ (Ex.new hp) ⟨p, _, rfl, upd_same, (al.append bl).ex (Ex.new hp)⟩⟩
theorem stays_isK (k : List Key) : Stays (isK k) := fun v H D l1 l2 ⟨a, h1, h2⟩ hD => ⟨a, h1, by
  rw [upd_ne (ne_of h2 hD (fun z => nomatch z))]
  exact h2⟩
theorem pen_new {H H' : Hp} {p q a : Addr} {ns : List Int} {s g : Int} (hP : Pen H p q ns s g) (n : H a = none) : a ≠ p := (ne_of_none hP.p n).symm
section
variable {P : Program} {w : World} {K : PySem.W.Frag} {mg : Str → Option Value} {base : Heap} {f fD fM : Addr} {fd fdD fdM : FuncData}
theorem ok_rowO (F : Fun K "_law_row" "_law_row" sRowO f fd) (T : K19.Blt mg) (G : FnOk P w K mg base CX0 1 fD fdD ["pen", "many"] spDraw) (b : Binds K fdD ["pen", "many"] []) (gD : mg "_law_draw" = some (.ref fD)) (kD : PySem.W.keepIn K (.ref fD) = true)
    (GM : FnOk P w K mg base CX0 3 fM fdM ["pen", "some"] (spMixed K)) (bM : Binds K fdM ["pen", "some"] []) (gM : mg "_law_mixed" = some (.ref fM)) (kM : PySem.W.keepIn K (.ref fM) = true) : FnOk P w K mg base CX0 4 f fd ["pen"] spRowO := by
  have nd := scRowO.nd
  refine F.ok scRowO (fun vs H Q E h => ?_) (fun cdv A outer s0 H vs Q E hr h => ?_)
  · obtain ⟨p, q, ns, s, g, rfl, _⟩ := h
    rfl
  · obtain ⟨p, q, ns, s, g, rfl, hP, hl, h0, h1, k⟩ := h
    refine ⟨_, pss_cons (ps_par (i := 1) (j := 2) (by rfl) nd rfl rfl (by decide) rfl rfl (pa_cons (pe_call GM hr (by rfl) gM kM bM .nil pass0 (pa_cons (pv 0) (pa_cons (pe_lst (pa_cons pe_str (pa_cons pe_str (pa_cons pe_str (pa_cons pe_str (pa_cons pe_str (pa_cons pe_str (pa_cons pe_str (pa_cons pe_str pa_nil))))))))) pa_nil))) (pa_cons (pe_lst pa_nil) pa_nil)) (by rfl))
      (pss_cons (ps_set (i := 3) nd rfl (Or.inl rfl) (pe_slice sl_list (pe_call GM hr (by rfl) gM kM bM .nil pass0 (pa_cons (pv 0) (pa_cons (pv 1) pa_nil))) po_none (po_some (pe_op op_add pe_int (pe_call G (hr.mono (by decide)) (by rfl) gD kD b .nil pass0 (pa_cons (pv 0) (pa_cons pe_int pa_nil)))))))
      (pss_cons (ps_for PassesOwn.never rfl (pi_list (pe_slice sl_list (pv 1) po_none (po_some (pe_op op_add pe_int (pe_call G (hr.mono (by decide)) (by rfl) gD kD b .nil pass0 (pa_cons (pv 0) (pa_cons pe_int pa_nil))))))) (pg_name (i := 4) nd rfl (Or.inr rfl))
        (pss_one (ps_set (i := 2) nd rfl (Or.inl rfl) (pe_op op_cat (pv 2) (pe_lc (own := [("other", 5)]) (g := gName 5) (tt := tYes) (te := tTup (tCons (tVar 4) (tCons (tVar 5) tNil))) rfl nd (pi_list (pv 3)) (blkOk_by (N := NRo) (sc := defScope sRowO) (by decide +kernel))
          (fun _ _ _ _ _ => by exact pg_name (i := 5) nd rfl (Or.inl rfl)) (fun _ _ _ _ _ => pts_nil) (fun _ _ _ _ _ => by exact pe_tup (pa_cons (pv 4) (pa_cons (pv 5) pa_nil))))))))
      (pss_one (ps_ret (pe_slice sl_list (pe_call GM hr (by rfl) gM kM bM .nil pass0 (pa_cons (pv 0) (pa_cons (pv 2) pa_nil))) po_none (po_some (pe_call G (hr.mono (by decide)) (by rfl) gD kD b .nil pass0 (pa_cons (pv 0) (pa_cons (pe_op op_add (pe_callB call_len_seq (by rfl) T.len PySem.boot_len (pa_cons (pv 2) pa_nil)) pe_int) pa_nil)))))))))
      , ?_⟩
    -- some, cells
    refine ⟨_, rfl, ?_⟩
    refine EvP.go (g_lits base8 (EvP.cons EvP.cst (EvP.cons EvP.cst (EvP.cons EvP.cst (EvP.cons EvP.cst (EvP.cons EvP.cst (EvP.cons EvP.cst (EvP.cons EvP.cst (EvP.cons EvP.cst EvP.nil)))))))) (by decide)) fun v H1 e1 hv => ?_
    obtain ⟨l1, rfl, hl1⟩ := hv
    have hP1 : Pen H1 p q ns s g := ⟨e1 _ _ hP.p, e1 _ _ hP.q⟩
    have oks : ∀ {ss : List Str} {G1 : Hp}, (∀ x ∈ ss, nameB x = true) → ∀ x ∈ ss.map itS, Solid K G1 x ∧ Flat x := fun h x hx => by
      obtain ⟨y, hy, rfl⟩ := List.mem_map.mp hx
      exact ⟨.inl ⟨y, rfl⟩, flat_str (strOk_name (h y hy))⟩
    refine ⟨p, q, ns, s, g, l1, base8.map itS, rfl, hP1, hl, h0, by omega, by rw [vals_strs]; exact hl1, ne_of hl1 hP1.p strs_ne, by decide, oks base8_ok.2, fun L fnd s2 g2 H2 pm nL hL a0 a1 hP2 hB2 => ?_⟩
    obtain ⟨ones, po, rfl⟩ := perm_map itS pm
    rw [vals_strs] at hL
    have one8 : ∀ x ∈ ones, nameB x = true := fun x hx => base8_ok.2 x (po.mem_iff.mp hx)
    have noO : ones.Nodup := po.nodup_iff.mpr base8_ok.1
    have lo : ones.length = 8 := po.length_eq
    have b2 : But p H H2 := fun b o hb nb => hB2 b o (e1 _ _ hb) nb
    refine ⟨by show 0 ≤ sizeLine; decide, fun R nR => ⟨_, _, rfl, ?_⟩⟩
    have eR := Ex.new (o := .lst []) nR
    have hL3 := eR _ _ hL
    have hP3 : Pen (upd H2 R (.lst [])) p q ns s2 g2 := ⟨eR _ _ hP2.p, eR _ _ hP2.q⟩
    have b3 : But p H (upd H2 R (.lst [])) := fun b o hb nb => eR _ _ (b2 b o hb nb)
    have hR3 : upd H2 R (.lst []) R = some (.lst []) := upd_same
    have Rp : R ≠ p := (ne_of_none hP2.p nR).symm
    generalize upd H2 R (.lst []) = H3 at hL3 hP3 b3 hR3 ⊢
    have s8 : s2 ≤ s + 8 := by
      have : ((base8.map itS).length : Int) = 8 := by decide
      omega
    -- there
    refine ⟨_, rfl, _, rfl, p, q, ns, s2, g2, L, ones.map itS, rfl, hP3, hl, by omega, by omega, by rw [vals_strs]; exact hL3, ne_of hL3 hP3.p strs_ne, by rw [List.length_map]; omega, oks one8, fun L2 fnd2 s4 g4 H4 pm2 nL2 hL2 c0 c1 hP4 hB4 => ?_⟩
    obtain ⟨twos, pt, rfl⟩ := perm_map itS pm2
    rw [vals_strs] at hL2
    have two8 : ∀ x ∈ twos, nameB x = true := fun x hx => one8 x (pt.mem_iff.mp hx)
    have noT : twos.Nodup := pt.nodup_iff.mpr noO
    rw [List.length_map] at c1
    have hL4 := hB4 _ _ hL3 (ne_of hL3 hP3.p strs_ne)
    have hR4 := hB4 _ _ hR3 Rp
    have b4 : But p H H4 := fun b o hb nb => hB4 b o (b3 b o hb nb) nb
    refine ⟨_, rfl, p, q, ns, s4, g4, _, rfl, hP4, hl, by omega, by omega, by omega, by omega, fun m s5 g5 H5 m0 m1 d0 d1 hP5 hB5 => ?_⟩
    have b5 : But p H H5 := fun b o hb nb => hB5 b o (b4 b o hb nb) nb
    have hL5 := hB5 _ _ hL4 (ne_of hL4 hP4.p strs_ne)
    have hR5 := hB5 _ _ hR4 Rp
    have hL25 := hB5 _ _ hL2 (ne_of hL2 hP4.p strs_ne)
    obtain ⟨M, rfl⟩ : ∃ M : Nat, m = M := ⟨m.toNat, by omega⟩
    have c1M : (1 : Int) + (M : Int) = ((1 + M : Nat) : Int) := by omega
    refine ⟨_, _, rfl, rfl, _, rfl, L2, _, rfl, SqL.of hL25, fun tp ntp => ?_⟩
    rw [c1M, cutV_pre, ← List.map_take]
    have l6 : (twos.take (1 + M)).length ≤ 6 := by
      rw [List.length_take]
      omega
    have noT' : (twos.take (1 + M)).Nodup := noT.sublist (List.take_sublist _ _)
    have two8' : ∀ x ∈ twos.take (1 + M), nameB x = true := fun x hx => two8 x (List.mem_of_mem_take hx)
    generalize twos.take (1 + M) = twoT at l6 noT' two8' ⊢
    have et := Ex.new (o := .lst (twoT.map V.str)) ntp
    have hP6 : Pen (upd H5 tp (.lst (twoT.map V.str))) p q ns s5 g5 := ⟨et _ _ hP5.p, et _ _ hP5.q⟩
    have b6 : But p H (upd H5 tp (.lst (twoT.map V.str))) := fun b o hb nb => et _ _ (b5 b o hb nb)
    have hT6 : upd H5 tp (.lst (twoT.map V.str)) tp = some (.lst (twoT.map V.str)) := upd_same
    have hL6 := et _ _ hL5
    have hR6 := et _ _ hR5
    generalize upd H5 tp (.lst (twoT.map V.str)) = H6 at hP6 b6 hT6 hL6 hR6 ⊢
    -- for one in some[:..]
    refine ⟨_, rfl, _, rfl, p, q, ns, s5, g5, _, rfl, hP6, hl, by omega, by omega, by omega, by omega, fun m2 s7 g7 H7 n0 n1 d2 d3 hP7 hB7 => ?_⟩
    have b7 : But p H H7 := fun b o hb nb => hB7 b o (b6 b o hb nb) nb
    have hL7 := hB7 _ _ hL6 (ne_of hL6 hP6.p strs_ne)
    have hR7 := hB7 _ _ hR6 Rp
    have hT7 := hB7 _ _ hT6 (ne_of hT6 hP6.p strs_ne)
    obtain ⟨M2, rfl⟩ : ∃ M2 : Nat, m2 = M2 := ⟨m2.toNat, by omega⟩
    have c1M2 : (1 : Int) + (M2 : Int) = ((1 + M2 : Nat) : Int) := by omega
    refine ⟨_, _, rfl, rfl, _, rfl, L, _, rfl, SqL.of hL7, fun lp nlp => ?_⟩
    rw [c1M2, cutV_pre, ← List.map_take]
    have o6 : (ones.take (1 + M2)).length ≤ 6 := by
      rw [List.length_take]
      omega
    have noO' : (ones.take (1 + M2)).Nodup := noO.sublist (List.take_sublist _ _)
    have one8' : ∀ x ∈ ones.take (1 + M2), nameB x = true := fun x hx => one8 x (List.mem_of_mem_take hx)
    have one8l : ∀ x ∈ ones.take (1 + M2), x ≠ ("late" : Str) := fun x hx => base8_late x (po.mem_iff.mp (List.mem_of_mem_take hx))
    generalize ones.take (1 + M2) = oneT at o6 noO' one8' one8l ⊢
    have eo := Ex.new (o := .lst (oneT.map V.str)) nlp
    have hP8 : Pen (upd H7 lp (.lst (oneT.map V.str))) p q ns s7 g7 := ⟨eo _ _ hP7.p, eo _ _ hP7.q⟩
    have b8 : But p H (upd H7 lp (.lst (oneT.map V.str))) := fun b o hb nb => eo _ _ (b7 b o hb nb)
    have hO8 : upd H7 lp (.lst (oneT.map V.str)) lp = some (.lst (oneT.map V.str)) := upd_same
    have hT8 := eo _ _ hT7
    have hR8 := eo _ _ hR7
    generalize upd H7 lp (.lst (oneT.map V.str)) = H8 at hP8 b8 hO8 hT8 hR8 ⊢
    refine ⟨lp, rfl, ⟨_, SqL.of hO8⟩, for_it (walk_list (xs := oneT.map V.str)) (fun n o H' => ∃ c y z acc, o = [some (.ref p), some (.ref L), some (.ref c), some (.ref tp), y, z] ∧ Ex H8 H' ∧ H' c = some (.lst acc) ∧ All2 H' ((crossO (oneT.take n) twoT).map isK) acc)
      ⟨R, _, _, [], rfl, Ex.refl _, hR8, .nil⟩ (fun n o H' _ ⟨_, _, _, _, _, e, _⟩ => SqL.of (e _ _ hO8)) (fun n x o H' H2' hn z y => ?_) (fun o H' z => ?_)⟩
    · obtain ⟨c, y1, z1, acc, rfl, e, hacc, al⟩ := z
      obtain ⟨rfl, hx⟩ := y
      rw [List.getElem?_map] at hx
      obtain ⟨one, ho, rfl⟩ := Option.map_eq_some_iff.mp hx
      have tk : oneT.take (n + 1) = oneT.take n ++ [one] := by
        rw [List.take_add_one, ho]
        rfl
      have cl := crossO_len (oneT.take n) twoT
      have cb : (crossO (oneT.take n) twoT).length ≤ 36 := by
        rw [cl]
        exact Nat.le_trans (Nat.mul_le_mul (show (oneT.take n).length ≤ 6 by rw [List.length_take]; omega) l6) (by decide)
      have gG : EvP.Gives (tOp rCat (tVar 2) (tLc (iList K (tVar 3)) (gName 5) tYes (tTup (tCons (tVar 4) (tCons (tVar 5) tNil))) [5])) [some (V.ref p), some (V.ref L), some (V.ref c), some (V.ref tp), some (.str one), z1] H2' (lstA ((crossO (oneT.take (n + 1)) twoT).map isK)) := by
        rw [tk, crossO_snoc, List.map_append]
        refine g_catP (EvP.varP (i := 2) rfl ⟨c, acc, rfl, hacc, al⟩) ?_ (by rw [List.length_map, List.length_map, List.length_map]; omega)
        have eq : ((twoT.map V.str).filter (fun _ => true)).map (fun v => isK (key2 one (match v with | .str s => s | _ => ""))) = (twoT.map fun t => key2 one t).map isK := by
          rw [List.filter_eq_self.mpr (fun _ _ => rfl), List.map_map, List.map_map]
          rfl
        rw [← eq]
        refine Fk.Gives.imp (comp (keep := fun _ => true) (φ := fun v => isK (key2 one (match v with | .str s => s | _ => ""))) (walks_list (EvP.varP (i := 3) rfl ⟨tp, rfl, e _ _ hT8⟩)) (by rw [List.length_map]; omega) (fun _ => rfl) (fun x hx H3 e3 Q q => q) (fun x hx _ => ?_) (fun x _ => stays_isK _)) fun v H ⟨a, vs, ev, ha, _, al⟩ => ⟨a, vs, ev, ha, al⟩
        obtain ⟨t, _, rfl⟩ := List.mem_map.mp hx
        exact fun H3 e3 Q q => ⟨_, rfl, _, rfl, by show 2 ≤ sizeLine; decide, fun a ha => q _ _ (Ex.new ha) ⟨a, rfl, upd_same⟩⟩
      refine gG H2' (Ex.refl _) _ fun v H9 e9 hv => ?_
      obtain ⟨c', acc', rfl, hc', al'⟩ := hv
      exact ⟨c', _, _, acc', rfl, e.trans e9, hc', al'⟩
    · obtain ⟨c, y1, z1, acc, rfl, e, hacc, al⟩ := z
      have el : (oneT.map V.str).length = oneT.length := List.length_map ..
      rw [el, List.take_length] at al
      have nod := crossO_nod noT' noO'
      have fine : Fine (crossO oneT twoT) := fun k hk => by
        obtain ⟨a, ha, t, ht, rfl⟩ := crossO_mem hk
        exact ⟨a, t, rfl, one8' a ha, two8' t ht⟩
      have noL : key2 "late" "x" ∉ crossO oneT twoT := fun hk => by
        obtain ⟨a, ha, t, ht, e⟩ := crossO_mem hk
        exact one8l a ha (key2_inj e).1.symm
      have few : (crossO oneT twoT).length ≤ 36 := by
        rw [crossO_len]
        exact Nat.le_trans (Nat.mul_le_mul o6 l6) (by decide)
      have hP9 : Pen H' p q ns s7 g7 := ⟨e _ _ hP8.p, e _ _ hP8.q⟩
      have b9 : But p H H' := fun b o hb nb => e _ _ (b8 b o hb nb)
      have cp : c ≠ p := by
        rintro rfl
        rw [hP9.p] at hacc
        cases hacc
        cases hks : crossO oneT twoT with
        | nil => rw [hks] at al; cases al
        | cons k1 r1 =>
          rw [hks] at al
          cases r1 with
          | nil => cases al with | cons _ t => cases t
          | cons k2 r2 =>
            cases al with
            | cons _ t =>
              cases t with
              | cons h2 _ =>
                obtain ⟨a, e2, _⟩ := h2
                cases e2
      obtain ⟨kas, rfl, ek, lie⟩ := all2_refs al
      rw [← ek] at nod fine few noL
      rw [List.length_map] at few
      refine ⟨_, rfl, _, rfl, p, q, ns, s7, g7, c, kas.map itK, rfl, hP9, hl, by omega, by omega, by rw [vals_keys]; exact hacc, cp, by rw [List.length_map]; omega, fun x hx => ?_, fun f2 fnd s10 g10 H10 pm nf hf t0 t1 hP10 hB10 => ?_⟩
      · obtain ⟨y, hy, rfl⟩ := List.mem_map.mp hx
        exact ⟨.inr ⟨y.2, y.1, rfl, lie y hy⟩, flat_key (fine y.1 (List.mem_map_of_mem hy))⟩
      obtain ⟨fk, pk, rfl⟩ := perm_map itK pm
      rw [vals_keys] at hf
      rw [List.length_map] at t1
      have lie10 : Lie H10 kas := fun y hy => hB10 _ _ (lie y hy) (ne_of (lie y hy) hP9.p fun z => nomatch z)
      have lieF : Lie H10 fk := fun y hy => lie10 y (pk.mem_iff.mp hy)
      have fp : f2 ≠ p := by
        rintro rfl
        rw [hP9.p] at nf
        cases nf
      have hc10 := hB10 _ _ hacc cp
      refine ⟨_, rfl, _, rfl, c, _, rfl, .inl (SqL.of hc10), _, _, rfl, rfl, p, q, ns, s10, g10, _, rfl, hP10, hl, by omega, by omega, by omega, ?_, fun m3 s11 g11 H11 u0 u1 v0 v1 hP11 hB11 => ?_⟩
      · have : (refs kas).length = kas.length := by unfold refs; rw [List.length_map]
        omega
      obtain ⟨M3, rfl⟩ : ∃ M3 : Nat, m3 = M3 := ⟨m3.toNat, by omega⟩
      refine ⟨_, rfl, f2, _, rfl, SqL.of (hB11 _ _ hf fp), fun r nr => ?_⟩
      rw [cutV_pre]
      have er := Ex.new (o := .lst ((refs fk).take M3)) nr
      have b11 : But p H H11 := fun b o hb nb => hB11 b o (hB10 b o (b9 b o hb nb) nb) nb
      have tk : (refs fk).take M3 = refs (fk.take M3) := by
        unfold refs
        rw [List.map_take]
      have lie11 : Lie H11 fk := fun y hy => hB11 _ _ (lieF y hy) (ne_of (lieF y hy) hP10.p fun z => nomatch z)
      refine k r (fk.take M3) s11 g11 _ ⟨?_, ?_, ?_, ?_⟩ ?_ (by rw [upd_same, tk]) ?_ (by omega) (by omega) ⟨er _ _ hP11.p, er _ _ hP11.q⟩ fun b o hb nb => er _ _ (b11 b o hb nb)
      · rw [List.map_take]
        exact ((pk.map Prod.fst).nodup_iff.mpr nod).sublist (List.take_sublist _ _)
      · intro k hk
        rw [List.map_take] at hk
        exact fine k ((pk.map Prod.fst).mem_iff.mp (List.mem_of_mem_take hk))
      · rw [List.length_map, List.length_take]
        have := pk.length_eq
        omega
      · intro hk
        rw [List.map_take] at hk
        exact noL ((pk.map Prod.fst).mem_iff.mp (List.mem_of_mem_take hk))
      · cases hh : H r with
        | none => rfl
        | some o =>
          exfalso
          by_cases c : r = p
          · rw [c, hP11.p] at nr
            cases nr
          · rw [b11 r o hh c] at nr
            cases nr
      · exact fun y hy => er _ _ (lie11 y (List.mem_of_mem_take hy))
end
end Od

set_option Elab.async false
set_option linter.all false
set_option maxRecDepth 100000
set_option maxHeartbeats 4000000
/-! What is asked of a caught exception that a name keeps: isinstance, a field. -/
namespace L2
open PySem PySem.Spec PyProof.Rows
/-- at a: a caught exception of the class at C, with its fields -/
def KeptAt (H : Hp) (a C : Addr) (fs : List (Str × V)) : Prop := ∃ d, H a = some (ExK (.ref C) (some d) a) ∧ H d = some (.xd fs)
theorem KeptAt.ex {H H' : Hp} {a C : Addr} {fs : List (Str × V)} (e : ∀ b o, H b = some o → H' b = some o) (h : KeptAt H a C fs) : KeptAt H' a C fs := by
  obtain ⟨d, e1, e2⟩ := h
  exact ⟨d, e _ _ e1, e _ _ e2⟩
section
variable {X : Cx} {pins : List (Addr × Obj)} {σ : St} {H : Hp} {s : Shared}
theorem KeptAt.inst {a C : Addr} {fs : List (Str × V)} (I : Inv X pins σ H s) (h : KeptAt H a C fs) : ∃ (ox od : Obj) (mA : Str → Option Value), PySem.W.InstAt s.heap a ox C (some od) ∧ (∀ f, PySem.W.lookIn f od = some (mA f)) ∧ ∀ f, RelO (fs.lookup f) (mA f) := by
  obtain ⟨d, ea, ed⟩ := h
  obtain ⟨oe, vs, ho, hz, hd⟩ := exK_at I.hok ea
  have x : ObjOk X.prog X.w H s.heap d (.xd fs) := I.hok d _ ed
  obtain ⟨mA, hns, hr⟩ := x
  obtain ⟨od, hod, hl⟩ := lookIn_ns hns
  exact ⟨oe, od, mA, ⟨ho, hz.1, by unfold PySem.W.notCls; rw [hd] <;> rfl, by rw [hz.2]; exact hod⟩, hl, hr⟩
/-- isinstance(e, c), e caught -/
def rIsK (K : PySem.W.Frag) : List V → Hp → VK → Prop := fun xs H Q => ∃ (a D : Addr) (fs : List (Str × V)) (c : V) (cv : Value) (b : Bool), xs = [.ref a, c] ∧ KeptAt H a D fs ∧ ExcC K D ∧ ClsV c cv ∧ PySem.W.kitOne K (.ref D) cv = some b ∧ Q (.bl b) H
theorem call_isK : CallR X (.builtin "isinstance") (rIsK X.K) := by
  intro pins s σ H xs us Q I r h
  obtain ⟨a, D, fs, c, cv, b, rfl, ea, C, k, e, q⟩ := h
  obtain ⟨u1, u2, rfl, r1, r2⟩ := vals2 r
  have e2 := k.eq r2
  subst e2
  cases r1
  obtain ⟨ox, od, mA, J, _⟩ := ea.inst I
  exact PySem.W.kia_one (PySem.XK.Asked.kit (od := some od) (ox := ox) ⟨C.hg, C.hk, C.hs, (let ⟨cd, hc, _⟩ := PySem.W.any_some C.hd; ⟨cd, hc⟩), C.ha, C.hn, C.ht, C.hm⟩) I.kIn J e (fun z => nomatch z) fun tk => ⟨.bl b, H, I.kept (t' := tk) fun _ _ z => z, rfl, q⟩
/-- e.f, e caught -/
def tKf (K : PySem.W.Frag) (f : Str) (te : TE) : TE := fun σ H Q => te σ H fun x H1 => ∃ (a C : Addr) (fs : List (Str × V)) (v : V), x = .ref a ∧ XfC K C ∧ PySem.W.findIn K (.ref C) f = some none ∧ KeptAt H1 a C fs ∧ fs.lookup f = some v ∧ Q v H1
theorem pe_kf {e : Expr} {te : TE} {pos : Pos} {n : Str} (he : PE X e te) (hb : attributeBase e n X.env (eval e X.env) = eval e X.env := by rfl) :
    PE X (.Attribute e n pos) (tKf X.K n te) := by
  refine ⟨fun pins s σ H Q I h => ?_⟩
  refine attr_of hb (thn (he.run pins s σ H _ I h) fun u s1 hh => ?_)
  obtain ⟨x, H1, I1, rx, a, C, fs, v, rfl, T, hno, ea, l, q⟩ := hh
  obtain rfl : u = Value.ref a := rx
  obtain ⟨ox, od, mA, J, hl, hr⟩ := ea.inst I1
  obtain ⟨u, hu, ru⟩ := RelO.some_of (v := v) (o := mA n) (by rw [← l]; exact hr n)
  exact HandSPX.exc_get I1.kIn J T.ga T.gg T.exC (PySem.W.findObj_own T.hdC hno rfl (by rw [hl, hu])) (handed_of ru) ⟨v, H1, I1.tok _, ru, q⟩
end
end L2

set_option Elab.async false
set_option linter.all false
set_option maxRecDepth 100000
set_option maxHeartbeats 4000000
/-! o.m(k = v, ..), C.m(k = v, ..) without positional arguments; not o, o an own instance. -/
namespace Mkw
open PySem PySem.Spec PyProof.Rows L2
section
variable {X : Cx} {CX : CXT} {k : Nat} {C p f : Addr} {fd : FuncData} {mc : Value} {ps ks : List Str} {sp : Sp} {E : XK} {o : Expr} {m : Str} {pos apos : Pos} {ta : TE} {tk : TA} {kws : List Keyword} {pl : Sem Bool} {g : List Value → List Value → List Value} {gV : List V → List V → List V}
def tMethK (C : Addr) (m : Str) (sp : Sp) (gV : List V → List V → List V) (E : XK) (ta : TE) (tk : TA) : TE := fun σ H Q => ta σ H fun x H1 => ∃ a dx fs, x = .ref a ∧ H1 a = some (.ins C dx fs) ∧ fs.lookup m = none ∧ tk σ H1 fun zs H2 => sp (gV [x] zs) H2 Q E
theorem pe_methK0 (he : PE X o ta) (c : Cls X.K C) (hm : Meth X.K C m f) (F : FnOk X.prog X.w X.K X.mg X.base CX k f fd ps sp) (hr : Room k X.A) (hb : KBinds X.K fd ps ks g gV) (hx : Passes CX X E) (hkw : PK X kws tk)
    (hall : (backToKw pos (keywordEach kws X.env)).all (·.1.isSome) = true := by rfl) (hks : (backToKw pos (keywordEach kws X.env)).filterMap (·.1) = ks := by rfl)
    (hpl : ((backTo pos (starEach [] X.env)).any (·.1) || (backToKw pos (keywordEach kws X.env)).any (·.1.isNone)) = false := by rfl)
    (ht : eval (.Call (.Attribute o m apos) [] kws pos) X.env = (do
      let ov ← eval o X.env
      standAt apos.atName
      let (f, first) ← holding [ov] (getMethod ov m pl)
      callWith pos f first (backTo pos (starEach [] X.env)) (backToKw pos (keywordEach kws X.env))) := by rfl) :
    PE X (.Call (.Attribute o m apos) [] kws pos) (tMethK C m sp gV E ta tk) := by
  refine ⟨fun pins s σ H Q I h => ?_⟩
  refine PySem.W.methodCall_KW (pl := pl) (thn (he.run pins s σ H _ I h) fun u s1 ⟨x, H1, I1, rx, a, dx, fs, ex, ea, l, q⟩ => ?_) ht
  subst ex
  obtain rfl : u = Value.ref a := rx
  refine getmeth_ok I1 ea c hm l ?_
  refine PySem.W.callWith_KW0 (first := [.ref a]) (h₀ := X.base) I.ok.mod.kin hm.kp hall (thn (hkw.run pos pins s1 σ H1 _ I1 q) fun ws s2 ⟨zs, H2, I2, rz, q2⟩ => ⟨I2.kIn, ?_⟩) hpl
  rw [hks]
  exact run_fnk (us := [.ref a]) (vs := [.ref a]) F hr hb hx I2 (.cons rfl .nil) rz q2
def tCMethK (C : Addr) (sp : Sp) (gV : List V → List V → List V) (E : XK) (ta : TE) (tk : TA) : TE := fun σ H Q => ta σ H fun x H1 => x = .ref C ∧ tk σ H1 fun zs H2 => sp (gV [.ref C] zs) H2 Q E
theorem run_cmK {σ : L2.St} {H : Hp} {s : Shared} {pins : List (Addr × Obj)} {q : Addr} {Q : VK} {ws : List Value} {zs : List V} (F : FnOk X.prog X.w X.K X.mg X.base CX k f fd ps sp) (hr : Room k X.A) (hb : KBinds X.K fd ps ks g gV) (hx : Passes CX X E)
    (I : Inv X ((q, PySem.W.methodObj (.ref f) (.ref C)) :: pins) σ H s) (r : Vals zs ws) (h : sp (gV [.ref C] zs) H Q E) : wpAny (model X.prog X.w) X.A (call (.ref q) [] (ks.zip ws)) (EP X pins σ Q) X.xe s := by
  have r2 := hb.rel (vs := [.ref C]) (us := [.ref C]) (.cons rfl .nil) r
  have hl : (g [.ref C] ws).length = ps.length := by rw [← r2.length]; exact F.len _ _ _ _ h
  have z : wpAny (model X.prog X.w) X.A (call (.ref q) [] (ks.zip ws)) (EP X ((q, PySem.W.methodObj (.ref f) (.ref C)) :: pins) σ Q) X.xe s := by
    refine wpAny_call (PySem.W.method_call (ClX.pin_at I) (codeAny_mono (F.run X.A X.stack s H ⟨[.ref C], ks.zip ws⟩ (g [.ref C] ws) (gV [.ref C] zs) Q E hr I.env0 (hb.to s [.ref C] ws I.kIn hl) r2 h) fun r s' hq => ?_))
    cases r with
    | error e => exact hx _ σ H s e s' I hq
    | ok fl =>
      cases fl with
      | ret u => exact I.after hq
      | next => exact False.elim hq
      | brk => exact False.elim hq
      | cont => exact False.elim hq
  exact thn z fun _ _ y => ClX.unpinE y
theorem pe_cmethK0 (he : PE X o ta) (r : ClX.CRead X.K C mc) (c : ClX.CMet X.K C mc m p f) (F : FnOk X.prog X.w X.K X.mg X.base CX k f fd ps sp) (hr : Room k X.A) (hb : KBinds X.K fd ps ks g gV) (hx : Passes CX X E) (hkw : PK X kws tk)
    (hall : (backToKw pos (keywordEach kws X.env)).all (·.1.isSome) = true := by rfl) (hks : (backToKw pos (keywordEach kws X.env)).filterMap (·.1) = ks := by rfl)
    (hpl : ((backTo pos (starEach [] X.env)).any (·.1) || (backToKw pos (keywordEach kws X.env)).any (·.1.isNone)) = false := by rfl)
    (ht : eval (.Call (.Attribute o m apos) [] kws pos) X.env = (do
      let ov ← eval o X.env
      standAt apos.atName
      let (f, first) ← holding [ov] (getMethod ov m pl)
      callWith pos f first (backTo pos (starEach [] X.env)) (backToKw pos (keywordEach kws X.env))) := by rfl) :
    PE X (.Call (.Attribute o m apos) [] kws pos) (tCMethK C sp gV E ta tk) := by
  refine ⟨fun pins s σ H Q I h => ?_⟩
  refine PySem.W.methodCall_KW (pl := pl) (thn (he.run pins s σ H _ I h) fun u s1 ⟨x, H1, I1, rx, ex, q⟩ => ?_) ht
  subst ex
  obtain rfl : u = Value.ref C := rx
  refine ClX.getmethcm_ok I1 r c fun s2 I2 => ?_
  refine PySem.W.callWith_of (P := PySem.W.MethP X.K s1.heap.objs.size f (.ref C)) hpl (PySem.W.keeps_M c.fi) (PyProof.Rows.evalArgs_kw2_nil hall (thn (hkw.run pos _ s2 σ H1 _ I2 q) fun ws s3 ⟨zs, H2, I3, rz, q2⟩ => ⟨⟨ClX.pin_at I3, I3.kIn⟩, ?_⟩))
  show wpAny _ X.A (call (.ref _) [] _) _ _ _
  rw [hks]
  exact run_cmK F hr hb hx I3 rz q2
/-- not o, by the class's __len__ -/
theorem pe_notOwn {D : Addr} {j : Nat} {q : List Str} {r : Sp} {e : Expr} {h : Addr} {hd : FuncData} (hb : PySem.W.findIn X.K (.ref D) "__bool__" = some none) (M : Own.Mt X.prog X.w X.K X.mg X.base D "__len__" j q r h hd) (hr : Room (j + 1) X.A) (ha : PE X e ta) :
    PE X (.UnaryOp .Not e pos) (fun σ H Q => ta σ H fun x H1 => Own.rTruOwn D r x H1 fun b H2 => Q (.bl (!b)) H2) := by
  refine ⟨fun pins s σ H Q I h => ?_⟩
  refine UnaryOp_ (thn (ha.run pins s σ H _ I h) fun v s1 ⟨x, H1, I1, r1, q1⟩ => ?_)
  exact not_of (thn (Own.tru_own hb M hr pins s1 σ H1 x v (fun b H2 => Q (.bl (!b)) H2) I1 r1 q1) fun c s2 ⟨H2, I2, q2⟩ => ⟨.bl (!c), H2, I2, rfl, q2⟩)
end
end Mkw

set_option Elab.async false
set_option linter.all false
set_option maxRecDepth 100000
set_option maxHeartbeats 4000000
/-! The law's look at a row within another one. -/
namespace Od
open PySem PySem.NumText PySem.Spec PyProof.Rows L2 EvP Cm Fk DtE Tb Fi KSet Wd
open Dg hiding numT
/-- what is left to be met -/
def metK : List (List Key) → List Key → List (List Key)
  | [], _ => []
  | x :: t, s => if x = s then t else x :: t
def remK (R S : List (List Key)) : List (List Key) := S.foldl metK R
theorem remK_nil : ∀ (S : List (List Key)), remK [] S = []
  | [] => rfl
  | s :: S => remK_nil S
/-- all met, in this order: R is what S has of R -/
theorem remK_iff : ∀ {S R : List (List Key)}, S.Nodup → R.Nodup → (remK R S = [] ↔ R = andK S R)
  | [], R, _, _ => Iff.rfl
  | s :: S, [], _, _ => by
    have e : andK (s :: S) [] = [] := by
      unfold andK
      rw [List.filter_eq_nil_iff]
      intro z _ h
      cases h
    rw [remK_nil, e]
  | s :: S, r :: R, hs, hr => by
    rw [List.nodup_cons] at hs hr
    have has : ∀ {T : List (List Key)} {z : List Key}, hasK T z = true ↔ z ∈ T := hasK_iff
    by_cases e : r = s
    · subst e
      have ih := remK_iff (S := S) (R := R) hs.2 hr.2
      have st : remK (r :: R) (r :: S) = remK R S := by
        show List.foldl metK (metK (r :: R) r) S = _
        rw [show metK (r :: R) r = R from if_pos rfl]
        rfl
      have fl : andK (r :: S) (r :: R) = r :: andK S R := by
        unfold andK
        rw [List.filter_cons, has.mpr (.head _)]
        simp only [if_true]
        congr 1
        refine List.filter_congr fun z hz => ?_
        have nz : z ≠ r := fun q => hs.1 (q ▸ hz)
        rw [Bool.eq_iff_iff, has, has]
        exact ⟨fun q => (List.mem_cons.mp q).resolve_left nz, fun q => .tail _ q⟩
      rw [st, fl, ih]
      exact ⟨fun q => by rw [← q], fun q => (List.cons.inj q).2⟩
    · have ih := remK_iff (S := S) (R := r :: R) hs.2 (List.nodup_cons.mpr hr)
      have st : remK (r :: R) (s :: S) = remK (r :: R) S := by
        show List.foldl metK (metK (r :: R) s) S = _
        rw [show metK (r :: R) s = r :: R from if_neg e]
        rfl
      rw [st, ih]
      by_cases m : s ∈ r :: R
      · have fl : andK (s :: S) (r :: R) = s :: andK S (r :: R) := by
          unfold andK
          rw [List.filter_cons, has.mpr m]
          simp only [if_true]
        rw [fl]
        refine ⟨fun q => ?_, fun q => absurd (List.cons.inj q).1 e⟩
        rw [q] at m
        exact absurd (List.mem_filter.mp m).1 hs.1
      · have fl : andK (s :: S) (r :: R) = andK S (r :: R) := by
          unfold andK
          rw [List.filter_cons]
          cases h : hasK (r :: R) s
          · simp
          · exact absurd (has.mp h) m
        rw [fl]
abbrev sWithin : Stmt := top 58
abbrev NWi : List Str := ["row", "rest", "at", "pair"]
theorem scWithin : FnScope NWi ["row", "rest"] (defScope sWithin) := ⟨rfl, rfl, rfl, by decide +kernel, rfl, by decide +kernel, by decide +kernel⟩
def spWithin : Sp := fun vs H Q _ => ∃ a b ks ls, vs = [.ref a, .ref b] ∧ H a = some (.lst (refs ks)) ∧ H b = some (.lst (refs ls)) ∧ Lie H ks ∧ Lie H ls ∧ RowO (ks.map Prod.fst) ∧ RowO (ls.map Prod.fst) ∧ Q (.bl (decide (ks.map Prod.fst = andK (ls.map Prod.fst) (ks.map Prod.fst)))) H
section
variable {P : Program} {w : World} {K : PySem.W.Frag} {mg : Str → Option Value} {base : Heap} {f : Addr} {fd : FuncData}
theorem ok_within (F : Fun K "_law_is_within" "_law_is_within" sWithin f fd) (T : Fk.Blt mg) : FnOk P w K mg base CX0 1 f fd ["row", "rest"] spWithin := by
  have nd := scWithin.nd
  refine F.ok scWithin (fun vs H Q E h => ?_) (fun cdv A outer s H vs Q E hr h => ?_)
  · obtain ⟨a, b, ks, ls, rfl, _⟩ := h
    rfl
  · obtain ⟨a, b, ks, ls, rfl, ha, hb, la, lb, rR, rS, q⟩ := h
    refine ⟨_, pss_cons (ps_set (i := 2) nd rfl (Or.inl rfl) pe_int)
      (pss_cons (ps_for PassesOwn.never rfl (pi_list (pv 1)) (pg_name (i := 3) nd rfl (Or.inl rfl))
        (pss_one (ps_if (PW.pt (pw_and (pt_cmpR op_lt (pv 2) (pe_callB call_len_seq (by rfl) T.len PySem.boot_len (pa_cons (pv 0) pa_nil)) (nomark _)) (pw_and1 (pt_cmpR (op_eqD hr.units) (pe_ix ix_list (pv 0) (pv 2) (fun _ _ => rfl)) (pv 3) (nomark _)))))
          (pss_one (ps_set (i := 2) nd rfl (Or.inl rfl) (pe_op op_add (pv 2) pe_int))) pss_nil)))
      (pss_one (ps_ret (pe_cmpR op_eq (pv 2) (pe_callB call_len_seq (by rfl) T.len PySem.boot_len (pa_cons (pv 0) pa_nil)) (nomark _))))), ?_⟩
    have lk : (refs ks).length = (ks.map Prod.fst).length := by unfold refs; rw [List.length_map, List.length_map]
    have ek : ∀ {j : Nat} {x : List Key}, (ks.map Prod.fst)[j]? = some x → ∃ a', (refs ks)[j]? = some (V.ref a') ∧ H a' = some (.tup (x.map kV)) := fun {j x} h => by
      rw [List.getElem?_map] at h
      obtain ⟨y, hy, rfl⟩ := Option.map_eq_some_iff.mp h
      exact ⟨y.2, by unfold refs; rw [List.getElem?_map, hy]; rfl, la y (List.mem_of_getElem? hy)⟩
    refine ⟨_, rfl, b, rfl, ⟨_, SqL.of hb⟩, for_it (walk_list (xs := refs ls)) (fun n σ H' => ∃ (j : Nat) (z : Option V), σ = [some (.ref a), some (.ref b), some (.int (j : Nat)), z] ∧ H' = H ∧ j ≤ (ks.map Prod.fst).length ∧ (ks.map Prod.fst).drop j = remK (ks.map Prod.fst) ((ls.map Prod.fst).take n)) ⟨0, none, rfl, rfl, Nat.zero_le _, by rw [List.take_zero]; rfl⟩ (fun n σ H' _ ⟨_, _, _, e, _⟩ => by rw [e]; exact SqL.of hb) (fun n x σ H' H2 hn z y => ?_) (fun σ H' z => ?_)⟩
    · obtain ⟨j, o, rfl, rfl, hj, hd⟩ := z
      obtain ⟨rfl, hx⟩ := y
      unfold refs at hx
      rw [List.getElem?_map] at hx
      obtain ⟨y, hy, rfl⟩ := Option.map_eq_some_iff.mp hx
      have my : y.1 ∈ ls.map Prod.fst := List.mem_map_of_mem (List.mem_of_getElem? hy)
      have tk : (ls.map Prod.fst).take (n + 1) = (ls.map Prod.fst).take n ++ [y.1] := by
        rw [List.take_add_one, List.getElem?_map, hy]
        rfl
      have nx : remK (ks.map Prod.fst) ((ls.map Prod.fst).take (n + 1)) = metK ((ks.map Prod.fst).drop j) y.1 := by
        rw [tk, hd]
        unfold remK
        rw [List.foldl_append]
        rfl
      refine ⟨_, rfl, _, rfl, a, refs ks, rfl, .inl (SqL.of ha), _, _, rfl, rfl, ?_⟩
      rw [lk]
      by_cases c : j < (ks.map Prod.fst).length
      · have hjx : (ks.map Prod.fst)[j]? = some (ks.map Prod.fst)[j] := List.getElem?_eq_getElem c
        generalize hxk : (ks.map Prod.fst)[j] = xk at hjx
        obtain ⟨a', hr1, hr2⟩ := ek hjx
        have dj : (ks.map Prod.fst).drop j = xk :: (ks.map Prod.fst).drop (j + 1) := by
          rw [← hxk]
          exact List.drop_eq_getElem_cons c
        have gx := rR.fine xk (List.mem_of_getElem? hjx)
        have gy := rS.fine y.1 my
        refine ⟨true, congrArg V.bl (decide_eq_true (show ((j : Nat) : Int) < (((ks.map Prod.fst).length : Nat) : Int) by omega)), ?_⟩
        refine ⟨_, rfl, _, rfl, a, refs ks, (j : Nat), .ref a', rfl, rfl, SqL.of ha, atI_nat hr1, _, rfl, keyD xk, keyD y.1, .tup (SqT.of hr2) (dp_key xk), .tup (SqT.of (lb y (List.mem_of_getElem? hy))) (dp_key y.1), shaped_key gx, shaped_key gy, ?_⟩
        rw [eqv_key gx gy]
        by_cases e : xk = y.1
        · rw [decide_eq_true e]
          refine ⟨true, rfl, ?_⟩
          exact ⟨_, rfl, _, _, rfl, rfl, j + 1, _, rfl, rfl, c, by rw [nx, dj]; exact (if_pos e).symm⟩
        · rw [decide_eq_false e]
          refine ⟨false, rfl, ?_⟩
          exact ⟨j, _, rfl, rfl, hj, by rw [nx, dj]; exact (if_neg e).symm⟩
      · refine ⟨false, congrArg V.bl (decide_eq_false (show ¬ ((j : Nat) : Int) < (((ks.map Prod.fst).length : Nat) : Int) by omega)), ?_⟩
        have d0 : (ks.map Prod.fst).drop j = [] := List.drop_of_length_le (by omega)
        exact ⟨j, _, rfl, rfl, hj, by rw [nx, d0]; rfl⟩
    · obtain ⟨j, o, rfl, rfl, hj, hd⟩ := z
      refine ⟨_, rfl, _, rfl, a, refs ks, rfl, .inl (SqL.of ha), rfl, ?_⟩
      show Q (.bl (decide (V.int (j : Nat) = V.int (((refs ks).length : Nat))))) _
      have el : (refs ls).length = (ls.map Prod.fst).length := by unfold refs; rw [List.length_map, List.length_map]
      rw [el, List.take_length] at hd
      have iff := remK_iff rS.nod rR.nod
      have e : decide (V.int (j : Nat) = V.int (((refs ks).length : Nat))) = decide (ks.map Prod.fst = andK (ls.map Prod.fst) (ks.map Prod.fst)) := by
        rw [decide_eq_decide, ← iff, ← hd, List.drop_eq_nil_iff, lk]
        exact ⟨fun q => by cases q; exact Nat.le_refl _, fun q => by rw [Nat.le_antisymm hj q]⟩
      rw [e]
      exact q
end
end Od

set_option Elab.async false
set_option linter.all false
set_option maxRecDepth 100000
set_option maxHeartbeats 4000000
/-! The class by its signs, put together; the sum or the error, in place. -/
namespace Od
open PySem PySem.NumText PySem.Spec PyProof.Rows L2 EvP Cm Fk DtE Tb Fi KSet Wd
open Dg hiding numT
/-- two by name, or one by place and one by name -/
def kwP {α : Type} : List α → List α → List α
  | [a], [b] => [a, b]
  | _, _ => []
/-- a class of errors, as the law asks it -/
structure BadX (K : PySem.W.Frag) (CF X : Addr) : Prop where
  te : PySem.W.exmOne K (.ref X) (.ref CF) = some true
  EC : ExcC K X
  XC : XfC K X
/-- the class Order by its signs -/
structure OrdQ (P : Program) (w : World) (K : PySem.W.Frag) (mg : Str → Option Value) (base : Heap) (C CO CT : Addr) where
  S : OrdC K C
  SI : SideI K C
  gO : mg "Order" = some (.ref C)
  r : ClX.CRead K C (.type "type")
  pO : Addr
  fO : Addr
  dO : FuncData
  cO : ClX.CMet K C (.type "type") "of" pO fO
  of : FnOk P w K mg base (L2.CX P w) 6 fO dO ["cls", "pairs"] (spOOf K C CO CT)
  ofB : Binds K dO ["cls", "pairs"] []
  fG : Addr
  mkC : Mk K C fG
  gi : FnR P w K mg base (L2.CX P w) 4 fG (spOI C CO CT)
  fN : Addr
  dN : FuncData
  len : Own.Mt P w K mg base C "__len__" 1 ["self"] (spOLen C) fN dN
  fI : Addr
  dI : FuncData
  itA : PySem.W.findIn K (.ref C) "__iter__" = some (some (.ref fI))
  itN : PySem.W.isFn K (.ref fI) = true
  it : Own.FnZ P w K mg base 1 fI ["self"] dI (spOIter C)
  itB : Binds K dI ["self"] []
  fE : Addr
  dE : FuncData
  eq : Own.Mt P w K mg base C "__eq__" 1 ["self", "other"] (spOEqs K C) fE dE
  ne : PySem.W.findIn K (.ref C) "__ne__" = some (some (.builtin "object.__ne__"))
  mro : PySem.W.mroIn K C (.type "object") = some true
  first : PySem.W.selfFirst K C = true
  fA : Addr
  dA : FuncData
  add : Own.MtX P w K mg base C "__add__" 7 ["self", "other"] (spOAdd C CO CT) fA dA
  fS : Addr
  dS : FuncData
  sub : Own.Mt P w K mg base C "__sub__" 7 ["self", "other"] (spOTwo C subK) fS dS
  fD : Addr
  dD : FuncData
  and_ : Own.Mt P w K mg base C "__and__" 7 ["self", "other"] (spOTwo C andK) fD dD
  fL : Addr
  dL : FuncData
  le : Own.Mt P w K mg base C "__le__" 2 ["self", "other"] (spOLe C) fL dL
  fV : Addr
  dV : FuncData
  inv : Own.Mt P w K mg base C "__invert__" 7 ["self"] (spOInv C) fV dV
  nS : Own.NoIn K C "sub"
  nD : Own.NoIn K C "and"
abbrev sJoined : Stmt := top 57
abbrev NJo : List Str := ["one", "other", "caught", "error"]
theorem scJoined : FnScope NJo ["one", "other"] (defScope sJoined) := ⟨rfl, rfl, rfl, by decide +kernel, rfl, by decide +kernel, by decide +kernel⟩
def spJoined (C : Addr) : Sp := fun vs H Q _ => ∃ a b R S, vs = [.ref a, .ref b] ∧ OrdAt C H a R ∧ OrdAt C H b S ∧ RowO R ∧ RowO S ∧ (R ++ S).length ≤ 36 ∧
  ((R ++ S).Nodup → ∀ v H', Ex H H' → (keysL (R ++ S)).R v H' → Q v H') ∧ (¬ (R ++ S).Nodup → ∀ H', Ex H H' → Q (.str "twice") H')
section
variable {P : Program} {w : World} {K : PySem.W.Frag} {mg : Str → Option Value} {base : Heap} {C CO CT CF f : Addr} {fd : FuncData}
theorem ok_joined (F : Fun K "_law_joined" "_law_joined" sJoined f fd) (T : Fk.Blt mg) (hL : mg "list" = none) (M : OrdQ P w K mg base C CO CT) (gF : mg "FillError" = some (.ref CF)) (gB : mg "BadOrder" = some (.ref CO)) (BX : BadX K CF CO) (nP : PySem.W.findIn K (.ref CO) "part" = some none) (kOO : PySem.W.kitOne K (.ref CO) (.ref CO) = some true) : FnOk P w K mg base CX0 8 f fd ["one", "other"] (spJoined C) := by
  have nd := scJoined.nd
  refine F.ok scJoined (fun vs H Q E h => ?_) (fun cdv A outer s H vs Q E hr h => ?_)
  · obtain ⟨a, b, R, S, rfl, _⟩ := h
    rfl
  · obtain ⟨a, b, R, S, rfl, oa, ob, rR, rS, few, q1, q2⟩ := h
    refine ⟨_, pss_cons (ps_set (i := 2) nd rfl (Or.inl rfl) pe_non)
      (pss_cons (ps_try_keep (c := .ref CF) (i := 3) (j := 2) (tb := fun W D σ H => tRet (tCB (Own.rListIt K C (spOIter C) (spOLen C)) (tCons (tOp (Own.rOwnX C (spOAdd C CO CT) (fun cls d H => ∀ σ : L2.St, σ.length = 4 → W cls d σ H)) (tVar 0) (tVar 1)) tNil)) D σ H)
        rfl rfl rfl nd rfl rfl ⟨by rfl, by decide, .inl gF⟩ (fun W pn xe tk => ?_) (fun a oe pn => pss_one (ps_set (i := 2) nd rfl (Or.inl rfl) (pv 3))))
      (pss_one (ps_ret (pe_ifExp (pt_val (pe_callB call_isK (by rfl) T.isi (by decide +kernel) (pa_cons (pv 2) (pa_cons (pe_glob (v := .ref CO) (by rfl) gB rfl) pa_nil)))) (pe_kf (pv 2)) pe_str)))), ?_⟩
    · exact pss_one (ps_ret (pe_callTy (T := "list") (Own.call_listIt M.itA M.itN M.it M.itB M.len (hr.mono (by decide)) (hr.mono (by decide)) rfl) (by rfl) hL (by decide +kernel) (pa_cons (pe_op (Own.op_ownX (op := .Add) M.add M.first hr (fun σ pins H s e s' I c =>
        passes_call (W := fun cls d σ H => σ.length = 4 → W cls d σ H) (fun u s' ⟨a, B, sI, pins, σ, H, cls, d, e, I, nb, up, sky, na, os, ag, w⟩ => tk u s' ⟨a, B, sI, pins, σ, H, cls, d, e, I, nb, up, sky, na, os, ag, w I.len⟩) (fun cls d σ H z l => z σ l) pins σ H s e s' I c)) (pv 0) (pv 1)) pa_nil)))
    have four : ∀ {σ' : L2.St}, σ'.length = 4 → ∃ s0 s1 s2 s3, σ' = [s0, s1, s2, s3] := fun {σ'} hl => by
      match σ', hl with
      | [s0, s1, s2, s3], _ => exact ⟨s0, s1, s2, s3, rfl⟩
    refine ⟨_, rfl, _, rfl, ord_ins oa, ord_ins ob, a, b, R, S, rfl, oa, ob, rR, rS, by omega, fun nn d H' e hd σ' hl => ⟨BX.te, fun x na => ?_⟩, fun nn c => absurd c (by omega), fun nn _ b' H' e ob' => ?_⟩
    · obtain ⟨s0, s1, s2, s3, rfl⟩ := four hl
      have hk : KeptAt (upd H' x (ExK (.ref CO) (some d) x)) x CO (partF "twice") := ⟨d, upd_same, by rw [upd_ne (ne_of_none hd na)]; exact hd⟩
      refine ⟨.ref x, rfl, x, CO, _, .ref CO, .ref CO, true, rfl, hk, BX.EC, .own CO, kOO, true, rfl, ?_⟩
      dsimp only
      rw [if_pos rfl]
      exact ⟨.ref x, rfl, x, CO, _, .str "twice", rfl, BX.XC, nP, hk, rfl, q2 nn _ (e.trans (Ex.new na))⟩
    · exact g_listO (K := K) (σ := []) (te := tC (.ref b')) (R := R ++ S) (fun H1 e1 Q1 k1 => k1 _ _ (Ex.refl _) ⟨b', rfl, ob'.mono e1⟩) (by omega) H' (Ex.refl _) _ fun v H2 e2 hv => q1 nn v H2 (e.trans e2) hv
end
abbrev sBound : Stmt := top 59
abbrev NBo : List Str := ["one", "other", "name_so", "again"]
theorem scBound : FnScope NBo ["one", "other"] (defScope sBound) := ⟨rfl, rfl, rfl, by decide +kernel, rfl, by decide +kernel, by decide +kernel⟩
def spBound (C : Addr) : Sp := fun vs H Q _ => ∃ a b R S, vs = [.ref a, .ref b] ∧ OrdAt C H a R ∧ OrdAt C H b S ∧ RowO R ∧ RowO S ∧ ∀ H', Ex H H' → Q (.bl true) H'
section
variable {K : PySem.W.Frag} {C : Addr} {σ : L2.St} {H : Hp} {ta tb : TE} {R S : List (List Key)}
theorem g_two {f : List (List Key) → List (List Key) → List (List Key)} (h : EvP.Gives ta σ H (ordP C R)) (k : EvP.Gives tb σ H (ordP C S)) (rR : RowO R) (rS : RowO S) : EvP.Gives (tOp (Own.rOwn C (spOTwo C f)) ta tb) σ H (ordP C (f R S)) :=
  g_op h k fun x y H1 e ⟨a, ex, sa⟩ ⟨b, ey, sb⟩ Q q => by
    subst ex ey
    exact ⟨ord_ins sa, ord_ins sb, a, b, R, S, rfl, sa, sb, rR, rS, fun c H' e' sc => q _ _ e' ⟨c, rfl, sc⟩⟩
theorem g_leO (h : EvP.Gives ta σ H (ordP C R)) (k : EvP.Gives tb σ H (ordP C S)) (rR : RowO R) (rS : RowO S) : EvP.Gives (tOp (Own.rCmpOwn K C (spOLe C)) ta tb) σ H (is (.bl (decide (R = andK S R)))) :=
  g_op h k fun x y H1 e ⟨a, ex, sa⟩ ⟨b, ey, sb⟩ Q q => by
    subst ex ey
    exact ⟨ord_ins sa, ord_ins sb, a, b, R, S, rfl, sa, sb, rR, rS, fun H' e' => q _ _ e' rfl⟩
theorem g_eqO (h : EvP.Gives ta σ H (ordP C R)) (k : EvP.Gives tb σ H (ordP C S)) (o1 : Fine R) (o2 : Fine S) : EvP.Gives (tOp (Own.rCmpOwn K C (spOEqs K C)) ta tb) σ H (is (.bl (decide (R = S)))) :=
  g_op h k fun x y H1 e ⟨a, ex, sa⟩ ⟨b, ey, sb⟩ Q q => by
    subst ex ey
    exact ⟨ord_ins sa, ord_ins sb, .inl ⟨a, b, R, S, rfl, sa, sb, o1, o2, q _ _ (Ex.refl _) rfl⟩⟩
theorem g_neO (h : EvP.Gives ta σ H (ordP C R)) (k : EvP.Gives tb σ H (ordP C S)) (o1 : Fine R) (o2 : Fine S) : EvP.Gives (tOp (Own.rNeOwn C (spOEqs K C)) ta tb) σ H (is (.bl (!decide (R = S)))) :=
  g_op h k fun x y H1 e ⟨a, ex, sa⟩ ⟨b, ey, sb⟩ Q q => by
    subst ex ey
    exact ⟨ord_ins sa, ord_ins sb, .inl ⟨a, b, R, S, rfl, sa, sb, o1, o2, _, rfl, q _ _ (Ex.refl _) rfl⟩⟩
/-- ~order -/
theorem g_invO (h : EvP.Gives ta σ H (ordP C R)) (rR : RowO R) : EvP.Gives (tUn (fun x H Q => Own.Ins H x C ∧ spOInv C [x] H Q E0) ta) σ H (ordP C (R.map swapK)) := fun H1 e Q q =>
  h H1 e _ fun v H2 e2 ⟨b, ev, hb⟩ => by
    subst ev
    exact ⟨ord_ins hb, b, R, rfl, hb, rR, fun c H' e' hc => q _ _ (e2.trans e') ⟨c, rfl, hc⟩⟩
end
end Od

set_option Elab.async false
set_option linter.all false
set_option maxRecDepth 100000
set_option maxHeartbeats 4000000
/-! A lambda is called while nothing is being shown: what is known of the guards goes along. -/
namespace LamG
open PySem PySem.Spec PyProof.Rows L2 LamX
section
variable {X : Cx} {pins : List (Addr × Obj)} {σ : L2.St} {H HZ : Hp} {s t : Shared} {f c : Addr} {pm cv : Value} {params : Arguments} {body : Expr} {scope : Scope} {k : Nat} {te : TE} {E : XK}
/-- the lambda that X made, as it lies at f -/
abbrev made (X : Cx) (params : Arguments) (body : Expr) (scope : Scope) (pm : Value) (c : Addr) (cv : Value) : Obj :=
  PySem.W.kla_obj "<lambda>" (X.env.qual ++ "<lambda>") params body scope (cloFrom X.env.cells scope.names []) pm c cv
/-- its call, around A -/
theorem lam_call {A : Around} {outer : List Env} {Q : VK} (I : Inv X pins σ H s) (L : LamS X.env.scope scope) (at_ : t.heap.get? f = some (made X params body scope pm c cv))
    (bind : bindArgs (PySem.W.kla_fn "<lambda>" (X.env.qual ++ "<lambda>") params body scope (cloFrom X.env.cells scope.names []) pm (.ref c) cv) ⟨[], []⟩ = pure [])
    (e0 : Env0 X.prog X.w X.K X.mg X.base A outer t HZ) (room : Room (k + 1) A) (lim : t.heap.NoLimit) (un : Un (frs X.stack) [] H HZ s.heap t.heap) (code : HZ c = some (CodeO c (X.env.qual ++ "<lambda>")))
    (walk : Room k (A.deeper (lamEnv X scope t.heap.objs.size f c)) → PE (lamCx X A outer t HZ E scope f c) body te) (h : te σ HZ Q) :
    codeAny (model X.prog X.w) A (.call (.ref f) ⟨[], []⟩) (CR (L2.CX X.prog X.w) outer X.prog X.w HZ t Q E) t := by
  obtain ⟨⟨oc, rec, tk, c1, c2, c3⟩, -, -⟩ := e0.hok c _ code
  refine PySem.W.kla_callFunE room.depth at_ rfl L.co L.gen rfl ⟨c, oc, rec, tk, rfl, c1, c2, c3⟩ ?_
  rw [bind]
  refine wpAny_pure (wpAny_newFunctionEnv (fun y hy => (L.own y hy).2) (fun y hy => absurd hy List.not_mem_nil) (fun h1 ns below => ⟨lim.fresh _ below, PySem.W.kla_codeExpr ?_⟩) L.kind)
  have stay : ∀ b o, t.heap.get? b = some o → h1.get? b = some o := fun b o e => below.extBut b o (Nat.ne_of_lt (Heap.lt_size e)) (Heap.get?_push_of_some _ e)
  have J := lam_start2 (E := E) (tk := t.toks + 0) (f := f) (c' := c) I L e0 room.hd un ns stay
  refine wpAny_mono ((walk (room.deeper _)).run [] _ _ HZ Q J h) (fun v s2 z => ?_) fun _ _ z => z
  obtain ⟨u, H2, J2, r, q⟩ := z
  exact ⟨u, H2, J2.os, J2.bare, J2.base, J2.hok, r, q⟩
/-- a(), in the def that was handed the lambda -/
theorem pe_actG {Eg : XK} {CXg : CXT} {Ng : List Str} {qg a : Str} {sg : Scope} {g : Addr} {cdg : Value} {i : Nat} {pn : List (Addr × Obj)} {xe : Value → Shared → Prop} {W : WX} {p1 p2 : Pos}
    (I : Inv X pins σ H s) (L : LamS X.env.scope scope) (at_ : s.heap.get? f = some (made X params body scope pm c cv)) (nf : H f = none) (nfr : f ∉ frs X.stack)
    (bind : bindArgs (PySem.W.kla_fn "<lambda>" (X.env.qual ++ "<lambda>") params body scope (cloFrom X.env.cells scope.names []) pm (.ref c) cv) ⟨[], []⟩ = pure [])
    (tk : Takes ((cxOf CXg X.prog X.w X.K X.mg X.base Ng qg sg g cdg X.A X.stack s H Eg).tr pn xe) W) (hW : ∀ cls d σ' H', E cls d H' → W cls d σ' H') (room : Room (k + 1) (X.A.deeper (envOfC qg sg s.heap.objs.size g cdg)))
    (walk : ∀ (A : Around) (outer : List Env) (t : Shared) (H : Hp), A.guards = X.A.guards → Room k (A.deeper (lamEnv X scope t.heap.objs.size f c)) → PE (lamCx X A outer t H E scope f c) body te)
    (hN : Ng[i]? = some a) (hv : Vis sg a) (d1 : (a == ("__debug__" : Str)) = false := by decide) (d2 : (a == ("__classdict__" : Str)) = false := by decide) :
    PE ((cxOf CXg X.prog X.w X.K X.mg X.base Ng qg sg g cdg X.A X.stack s H Eg).tr pn xe) (.Call (.Name a p1) [] [] p2)
      (fun σZ HZ Q => σZ[i]? = some (some (.ref f)) ∧ HZ c = some (CodeO c (X.env.qual ++ "<lambda>")) ∧ te σ HZ Q) := by
  refine ⟨fun pz sz σz Hz Q Iz h => wpAny_Call_Name_kw (thn ((pe_var (pos := p1) (i := i) hN hv d1 d2).run pz sz σz Hz (fun v H1 => v = .ref f ∧ H1 = Hz) Iz ⟨.ref f, h.1, rfl, rfl⟩) fun u s1 z => ?_)⟩
  obtain ⟨v, H1, I1, r1, rfl, rfl⟩ := z
  cases (show u = Value.ref f from r1)
  have at1 : s1.heap.get? f = some (made X params body scope pm c cv) := I1.base.keep f _ at_ nf nfr List.not_mem_nil
  refine PySem.W.callWith_F0 ⟨_, _, _, _, at1⟩ (wpAny_call (codeAny_mono (lam_call (X := X) (pins := pins) (σ := σ) (H := H) (s := s) (E := E) I L at1 bind I1.env0 room I1.nolimit I1.base h.2.1 (walk _ _ s1 H1 rfl) h.2.2) fun r s2 z => ?_))
  cases r with
  | error e => exact passes_call tk hW pz σz H1 s1 e s2 I1 z
  | ok fl => cases fl with
    | ret u => exact I1.after z
    | _ => exact (show False from z).elim
/-- the def that calls what it got, while nothing is being shown -/
def GivesG (X : Cx) (Ng : List Str) (x : Str) (sg : Scope) (g : Addr) (cdg : Value) (bg : List Stmt) (a q : Str) (TT : (XK → Hp → VK → Prop) → Hp → VK → Prop) : Prop :=
  ∀ (f c : Addr) (s : Shared) (H : Hp) (Q : VK) (tl : XK → Hp → VK → Prop),
    (∀ (W : WX) (pn : List (Addr × Obj)) (xe : Value → Shared → Prop) (E : XK) (p1 p2 : Pos), Takes ((cxOf C8.CX0 X.prog X.w X.K X.mg X.base Ng x sg g cdg X.A X.stack s H C8.E0).tr pn xe) W → (∀ cls d σ' H', E cls d H' → W cls d σ' H') →
      PE ((cxOf C8.CX0 X.prog X.w X.K X.mg X.base Ng x sg g cdg X.A X.stack s H C8.E0).tr pn xe) (.Call (.Name a p1) [] [] p2) (fun σZ HZ Q => σZ[0]? = some (some (.ref f)) ∧ HZ c = some (CodeO c q) ∧ tl E HZ Q)) →
    H c = some (CodeO c q) → TT tl H Q →
    ∃ t, PSs (cxOf C8.CX0 X.prog X.w X.K X.mg X.base Ng x sg g cdg X.A X.stack s H C8.E0).nox bg t ∧ t { nx := fun _ H' => Q .non H', rt := Q } (L2.start Ng [.ref f]) H
/-- x(lambda: body) -/
theorem pe_lamG {T : List (Addr × Str)} {TT : (XK → Hp → VK → Prop) → Hp → VK → Prop} {x a : Str} {g c P : Addr} {pg : Arguments} {bg : List Stmt} {sg : Scope} {dV kV doc pm cdv ct oc : Value} {an od : Option Addr} {osl : Array (Option Value)} {Ng : List Str}
    {t : XK → TE} {p lpos pos : Pos} (hg : Gl X x) (hm : X.mg x = some (.ref g)) (hk : PySem.W.keepIn X.K (.ref g) = true) (lk : X.K.lookup g = some ⟨oc, od, .func (PySem.W.fnOf x x pg bg sg dV kV doc pm an cdv ct), osl⟩) (hcg : PySem.W.codeIn X.K cdv x = true)
    (hb : L2.Binds X.K (PySem.W.fnOf x x pg bg sg dV kV doc pm an cdv ct) [a] []) (Sg : FnScope Ng [a] sg) (hNg : Ng[0]? = some a) (hva : Vis sg a) (hG : GivesG X Ng x sg g cdv bg a (X.env.qual ++ "<lambda>") TT) (TB : TabB X.base X.mg c P) (hcode : X.env.code = .ref c)
    (hmT : (P, X.env.qual ++ "<lambda>") ∈ T) (hu : ∀ p ∈ T, p.1 = P → p.2 = X.env.qual ++ "<lambda>") (hr : Room (k + 2) X.A) (L : LamS X.env.scope scope) (hdef : defaultsOf params X.env = ([], []))
    (hbind : ∀ (q : Str) (cl : List (Str × Addr)) (pm cv ctv : Value), bindArgs (PySem.W.kla_fn "<lambda>" q params body scope cl pm cv ctv) ⟨[], []⟩ = pure [])
    (walk : ∀ (A : Around) (outer : List Env) (s : Shared) (H : Hp) (E : XK) (f c : Addr), A.guards = X.A.guards → Room k (A.deeper (lamEnv X scope s.heap.objs.size f c)) → PE (lamCx X A outer s H E scope f c) body (t E))
    (hdb : (x == ("__debug__" : Str)) = false := by decide) (d1 : (a == ("__debug__" : Str)) = false := by decide) (d2 : (a == ("__classdict__" : Str)) = false := by decide) :
    PE X (.Call (.Name x p) [.Lambda params body scope lpos] [] pos) (tLam T TT t) := by
  refine ⟨fun pins s σ H Q I ⟨hT, h⟩ => wpAny_Call_Name_kw (ld_glob I hg hm (PySem.W.callWith_K (h₀ := X.base) I.ok.mod.kin hk ?_ (by rfl) (by rfl)) hdb)⟩
  show wpAny _ _ (spliced ((false, eval (.Lambda params body scope lpos) X.env) :: backTo pos (starEach [] X.env))) _ _ s
  refine Calls.spliced_cons (lam_make2 I TB hcode hmT hu hT hdef (L.has I.ok) fun f c' pm' ctv H1 s1 I1 eN T1 hf hfn hfr hco => Calls.spliced_nil ⟨I1.kIn, wpAny_call (codeAny_mono (R := CR C8.CX0 X.stack X.prog X.w H1 s1 Q C8.E0) ?_ fun r s2 z => ?_)⟩)
  · refine run_ofS (N := Ng) (ps := [a]) (us := [.ref f]) (vs := [.ref f]) lk hcg Sg hr I1.env0 (hb s1 [.ref f] I1.kIn rfl) (.cons rfl .nil) rfl fun room => ?_
    obtain ⟨t1, w1, q1⟩ := hG f c' s1 H1 Q (fun E H' Q' => t E σ H' Q') (fun W pn xe E p1 p2 tk hW => pe_actG (i := 0) I1 L hf hfn hfr (hbind _ _ _ _ _) tk hW room (fun A outer s H gd hr2 => walk A outer s H E f c' gd hr2) hNg hva d1 d2) hco (h H1 eN T1)
    exact ⟨t1, w1.nox, q1⟩
  · cases r with
    | error e => exact (show False from z).elim
    | ok fl => cases fl with
      | ret u => exact I1.after z
      | _ => exact (show False from z).elim
end
end LamG

set_option Elab.async false
set_option linter.all false
set_option maxRecDepth 100000
set_option maxHeartbeats 4000000
/-! defs of the top that keep promises. -/
namespace Fi
open PySem PySem.Spec PyProof.Rows L2 LamX
structure FunC (K : PySem.W.Frag) (x qual : Str) (st : Stmt) (f c : Addr) (fd : FuncData) : Prop where
  ex : ∃ (oc : Value) (od : Option Addr) (kV doc pm : Value) (an : Option Addr) (ct : Value) (osl : Array (Option Value)),
    fd = PySem.W.fnOf x qual (defArgs st) (defBody st) (defScope st) .none kV doc pm an (.ref c) ct ∧ K.lookup f = some ⟨oc, od, .func fd, osl⟩ ∧ PySem.W.codeIn K (.ref c) qual = true
  kp : PySem.W.keepIn K (.ref f) = true
theorem FunC.okG {P : Program} {w : World} {K : PySem.W.Frag} {mg : Str → Option Value} {base : Heap} {k : Nat} {f c : Addr} {ps : List Str} {sp : Sp} {x qual : Str} {st : Stmt} {fd : FuncData} {N : List Str} (F : FunC K x qual st f c fd) (S : FnScope N ps (defScope st)) (len : ∀ vs H Q E, sp vs H Q E → vs.length = ps.length)
    (walk : ∀ (A : Around) (outer : List Env) (s : Shared) (H : Hp) (vs : List V) (Q : VK) (E : XK), A.guards = some [] → Room k (A.deeper (envOfC qual (defScope st) s.heap.objs.size f (.ref c))) → sp vs H Q E →
      ∃ t, PSs (cxOf CX0 P w K mg base N qual (defScope st) f (.ref c) A outer s H E).nox (defBody st) t ∧ t { nx := fun _ H' => Q .non H', rt := Q } (start N vs) H) : XG.FnG P w K mg base CX0 (k + 1) f fd ps sp := by
  obtain ⟨oc, od, kV, doc, pm, an, ct, osl, rfl, lk, hcd⟩ := F.ex
  refine XG.fnG_of lk hcd S len fun A outer s H vs Q E gd room h => ?_
  obtain ⟨t, a, b⟩ := walk A outer s H vs Q E gd room h
  exact ⟨t, a.nox, b⟩
structure CalD (P : Program) (w : World) (K : PySem.W.Frag) (mg : Str → Option Value) (base : Heap) (k : Nat) (x : Str) (ps : List Str) (sp : Sp) where
  f : Addr
  fd : FuncData
  ok : FnOk P w K mg base CX0 k f fd ps sp
  b : Binds K fd ps []
  g : mg x = some (.ref f)
  kp : PySem.W.keepIn K (.ref f) = true
structure CalG (P : Program) (w : World) (K : PySem.W.Frag) (mg : Str → Option Value) (base : Heap) (k : Nat) (x : Str) (ps : List Str) (sp : Sp) where
  f : Addr
  fd : FuncData
  ok : XG.FnG P w K mg base CX0 k f fd ps sp
  len : ∀ vs H Q E, sp vs H Q E → vs.length = ps.length
  b : Binds K fd ps []
  g : mg x = some (.ref f)
  kp : PySem.W.keepIn K (.ref f) = true
structure CalX (P : Program) (w : World) (K : PySem.W.Frag) (mg : Str → Option Value) (base : Heap) (k : Nat) (x : Str) (ps : List Str) (sp : Sp) where
  f : Addr
  fd : FuncData
  ok : XG.FnG P w K mg base (L2.CX P w) k f fd ps sp
  len : ∀ vs H Q E, sp vs H Q E → vs.length = ps.length
  b : Binds K fd ps []
  g : mg x = some (.ref f)
  kp : PySem.W.keepIn K (.ref f) = true
end Fi

set_option Elab.async false
set_option linter.all false
set_option maxRecDepth 100000
set_option maxHeartbeats 4000000
/-! Words of the law; _law_bound. -/
namespace L2
open PySem PySem.Spec PyProof.Rows
/-- repr of a truth, of an int -/
def rReprB : List V → Hp → VK → Prop := fun xs H Q => (∃ b : Bool, xs = [.bl b] ∧ Q (.str (if b then "True" else "False")) H) ∨ ∃ i : Int, xs = [.int i] ∧ i.natAbs.log2 < 1920 ∧ Q (.str (toString i)) H
theorem call_reprB {X : Cx} : CallR X (.builtin "repr") rReprB := by
  intro pins s σ H xs us Q I r h
  rcases h with ⟨b, rfl, q⟩ | ⟨i, rfl, hz, q⟩
  · obtain ⟨u, rfl, ru⟩ := r.one
    cases ru
    exact PySem.P.repr_of_bool ⟨.str _, H, I.tok _, ⟨_, rfl⟩, q⟩
  · obtain ⟨u, rfl, t, rfl⟩ := r.one
    exact PySem.P.repr_of_int hz ⟨.str _, H, I.tok _, ⟨_, rfl⟩, q⟩
end L2
namespace Od
open PySem PySem.NumText PySem.Spec PyProof.Rows L2 EvP Cm Fk DtE Tb Fi KSet Wd
open Dg hiding numT
section
variable {K : PySem.W.Frag} {C CO CT : Addr} {σ : L2.St} {H : Hp} {ta tb te : TE} {R S : List (List Key)} {k : List Key}
theorem g_keys {ks : List (List Key × Addr)} (h : EvP.Gives te σ H (lstV (refs ks))) (lie : Lie H ks) (ek : ks.map Prod.fst = R) : EvP.Gives te σ H (keysL R) := fun H1 e Q q =>
  h H1 e _ fun v H2 e2 ⟨l, ev, hl⟩ => q v H2 e2 ⟨l, ks, ev, hl, (lie.ex e).ex e2, ek⟩
theorem g_neK (h : EvP.Gives ta σ H (keysL R)) (k : EvP.Gives tb σ H (keysL S)) (o1 : Fine R) (o2 : Fine S) : EvP.Gives (tOp (rNeD K) ta tb) σ H (is (.bl (!decide (R = S)))) :=
  g_op h k fun x y H1 e ⟨a, k1, ex, ha, l1, e1⟩ ⟨b, k2, ey, hb, l2, e2⟩ Q q => by
    subst ex ey
    refine ⟨.list (R.map keyD), .list (S.map keyD), .lst (SqL.of ha) (by rw [← e1]; exact dp_refs l1), .lst (SqL.of hb) (by rw [← e2]; exact dp_refs l2), shaped_keysL o1, shaped_keysL o2, ?_⟩
    rw [show PyData.eqv (.list (R.map keyD)) (.list (S.map keyD)) = decide (R = S) from eqv_keys o1 o2]
    exact q _ _ (Ex.refl _) rfl
theorem g_eqK (h : EvP.Gives ta σ H (keysL R)) (k : EvP.Gives tb σ H (keysL S)) (o1 : Fine R) (o2 : Fine S) : EvP.Gives (tOp (rEqD K) ta tb) σ H (is (.bl (decide (R = S)))) :=
  g_op h k fun x y H1 e ⟨a, k1, ex, ha, l1, e1⟩ ⟨b, k2, ey, hb, l2, e2⟩ Q q => by
    subst ex ey
    refine ⟨.list (R.map keyD), .list (S.map keyD), .lst (SqL.of ha) (by rw [← e1]; exact dp_refs l1), .lst (SqL.of hb) (by rw [← e2]; exact dp_refs l2), shaped_keysL o1, shaped_keysL o2, ?_⟩
    rw [show PyData.eqv (.list (R.map keyD)) (.list (S.map keyD)) = decide (R = S) from eqv_keys o1 o2]
    exact q _ _ (Ex.refl _) rfl
/-- k in list -/
theorem g_inL {a : Addr} {i : Nat} (hi : σ[i]? = some (some (.ref a))) (ha : H a = some (.tup (k.map kV))) (g : GoodP k) (h : EvP.Gives te σ H (keysL R)) (f : Fine R) : EvP.Gives (tOp (rInD K) (tVar i) te) σ H (is (.bl (hasK R k))) := fun H1 e Q q =>
  ⟨_, hi, h H1 e _ fun v H2 e2 ⟨p, ks, ev, hp, lie, ek⟩ => by
    subst ev
    refine ⟨keyD k, R.map keyD, .tup (SqT.of (e2 _ _ (e _ _ ha))) (dp_key k), .lst (SqL.of hp) (by rw [← ek]; exact dp_refs lie), shaped_key g, shaped_keysL f, ?_⟩
    rw [any_key f g]
    exact q _ _ e2 rfl⟩
theorem g_notInL {a : Addr} {i : Nat} (hi : σ[i]? = some (some (.ref a))) (ha : H a = some (.tup (k.map kV))) (g : GoodP k) (h : EvP.Gives te σ H (keysL R)) (f : Fine R) : EvP.Gives (tOp (rNotInD K) (tVar i) te) σ H (is (.bl (!hasK R k))) := fun H1 e Q q =>
  ⟨_, hi, h H1 e _ fun v H2 e2 ⟨p, ks, ev, hp, lie, ek⟩ => by
    subst ev
    refine ⟨keyD k, R.map keyD, .tup (SqT.of (e2 _ _ (e _ _ ha))) (dp_key k), .lst (SqL.of hp) (by rw [← ek]; exact dp_refs lie), shaped_key g, shaped_keysL f, ?_⟩
    rw [any_key f g]
    exact q _ _ e2 rfl⟩
theorem g_catK (h : EvP.Gives ta σ H (keysL R)) (k : EvP.Gives tb σ H (keysL S)) (hz : R.length + S.length ≤ 1000) : EvP.Gives (tOp rCat ta tb) σ H (keysL (R ++ S)) :=
  g_op h k fun x y H1 e ⟨a, k1, ex, ha, l1, e1⟩ ⟨b, k2, ey, hb, l2, e2⟩ Q q => ⟨a, b, refs k1, refs k2, ex, ey, ha, hb, by
      rw [← e1, ← e2, List.length_map, List.length_map] at hz
      unfold refs
      rw [List.length_map, List.length_map, sizeLine_eq]
      omega, fun p hp => q _ _ (Ex.new hp) ⟨p, k1 ++ k2, rfl, by rw [upd_same]; unfold refs; rw [List.map_append], fun y hy => by
        rcases List.mem_append.mp hy with hy | hy
        · exact Ex.new hp _ _ (l1 y hy)
        · exact Ex.new hp _ _ (l2 y hy), by rw [List.map_append, e1, e2]⟩⟩
/-- Order.of(row) -/
theorem g_ofO (h : EvP.Gives te σ H (keysL R)) (rR : RowO R) : EvP.Gives (ClX.tCMeth C (spOOf K C CO CT) E0 (tC (.ref C)) (tCons te tNil)) σ H (ordP C R) := fun H1 e Q q =>
  ⟨rfl, h H1 e _ fun v H2 e2 ⟨a, ks, ev, ha, lie, ek⟩ => by
    subst ev ek
    have few := rR.few
    exact ⟨a, ks, rfl, .inl (SqL.of ha), lie, fun y hy => (rR.fine y.1 (List.mem_map_of_mem hy)).pairK, by rw [List.length_map] at few; omega, outs_ok rR fun b H' e' hb => q _ _ (e2.trans e') ⟨b, rfl, hb⟩⟩⟩
/-- Order() -/
theorem row0 : RowO [] := ⟨List.nodup_nil, (fun k hk => by cases hk), by decide⟩
theorem g_make0 : EvP.Gives (StX.tMakeR C (spOI C CO CT) E0 tNil) σ H (ordP C []) := fun H1 e Q q =>
  make_of (σ := σ) (ks := []) (fun y hy => by cases hy) (fun y hy => by cases hy) (by decide) (outs_ok row0 fun b H' e' hb => q _ _ e' ⟨b, rfl, hb⟩)
theorem g_reprB {b : Bool} (h : EvP.Gives te σ H (is (.bl b))) : EvP.Gives (tCB rReprB (tCons te tNil)) σ H (is (.str (if b then "True" else "False"))) := fun H1 e Q q =>
  h H1 e _ fun v H2 e2 ev => by
    cases (show v = _ from ev)
    exact .inl ⟨b, rfl, q _ _ e2 rfl⟩
/-- a row by its name -/
theorem var_keys {i : Nat} {l : Addr} {ks : List (List Key × Addr)} (hi : σ[i]? = some (some (.ref l))) (hl : H l = some (.lst (refs ks))) (lie : Lie H ks) : EvP.Gives (tVar i) σ H (keysL (ks.map Prod.fst)) := EvP.varP hi ⟨l, ks, rfl, hl, lie, rfl⟩
theorem var_ord {i : Nat} {b : Addr} (hi : σ[i]? = some (some (.ref b))) (hb : OrdAt C H b R) : EvP.Gives (tVar i) σ H (ordP C R) := EvP.varP hi ⟨b, rfl, hb⟩
/-- [pair for pair in row if ..] -/
theorem g_filt {i j : Nat} {vs : List Nat} {l : Addr} {ks : List (List Key × Addr)} {tt : TT} (keep : List Key → Bool) (hj : σ[j]? = some (some (.ref l))) (hl : H l = some (.lst (refs ks))) (lie : Lie H ks) (few : ks.length ≤ 1000) (wp : ∀ x, wipe ((wipe σ vs).set i (some x)) vs = wipe σ vs) (hi : ∀ x, ((wipe σ vs).set i (some x))[i]? = some (some x))
    (ht : ∀ y ∈ ks, Tst tt ((wipe σ vs).set i (some (.ref y.2))) H (keep y.1)) : EvP.Gives (tLc (iList K (tVar j)) (gName i) tt (tVar i) vs) σ H (keysL ((ks.map Prod.fst).filter keep)) :=
  g_keys (compK keep (walks_list (EvP.varP hj ⟨l, rfl, hl⟩)) few wp hi ht) (fun y hy => lie y (List.mem_filter.mp hy).1) (filter_fst keep ks)
end
section
variable {P : Program} {w : World} {K : PySem.W.Frag} {mg : Str → Option Value} {base : Heap} {C CO CT f : Addr} {fd : FuncData}
theorem ok_bound (F : Fun K "_law_bound" "_law_bound" sBound f fd) (M : OrdQ P w K mg base C CO CT) : FnOk P w K mg base CX0 8 f fd ["one", "other"] (spBound C) := by
  have nd := scBound.nd
  refine F.ok scBound (fun vs H Q E h => ?_) (fun cdv A outer s H vs Q E hr h => ?_)
  · obtain ⟨a, b, R, S, rfl, _⟩ := h
    rfl
  · obtain ⟨a, b, R, S, rfl, oa, ob, rR, rS, q⟩ := h
    refine ⟨_, pss_cons (ps_set (i := 2) nd rfl (Or.inl rfl) (pv 0))
      (pss_cons (ps_aug (i := 2) nd rfl (Or.inl rfl) (pv 1) (Own.ip_own (op := .Sub) M.sub M.first M.nS hr))
      (pss_cons (ps_set (i := 3) nd rfl (Or.inl rfl) (pv 0))
      (pss_cons (ps_aug (i := 3) nd rfl (Or.inl rfl) (pv 1) (Own.ip_own (op := .BitAnd) M.and_ M.first M.nD hr))
      (pss_one (ps_ret (pe_and (pe_cmpR (Own.cmp_own (op := .Eq) M.eq (hr.mono (by decide))) (pv 2) (pe_op (Own.op_own (op := .Sub) M.sub M.first hr) (pv 0) (pv 1)) (nomark _))
        (pe_one (pe_cmpR (Own.cmp_own (op := .Eq) M.eq (hr.mono (by decide))) (pv 3) (pe_op (Own.op_own (op := .BitAnd) M.and_ M.first hr) (pv 0) (pv 1)) (nomark _))))))))), ?_⟩
    refine ⟨_, rfl, .ref a, rfl, _, rfl, ord_ins oa, ord_ins ob, a, b, R, S, rfl, oa, ob, rR, rS, fun c1 H1 e1 o1 => ?_⟩
    have oa1 := oa.mono e1
    have ob1 := ob.mono e1
    refine ⟨_, rfl, .ref a, rfl, _, rfl, ord_ins oa1, ord_ins ob1, a, b, R, S, rfl, oa1, ob1, rR, rS, fun c2 H2 e2 o2 => ?_⟩
    have oa2 := oa1.mono e2
    have ob2 := ob1.mono e2
    have r1 : RowO (subK R S) := rR.filter _
    have r2 : RowO (andK R S) := rR.filter _
    have va := var_ord (C := C) (σ := [some (.ref a), some (.ref b), some (.ref c1), some (.ref c2)]) (i := 0) rfl oa2
    have vb := var_ord (C := C) (σ := [some (.ref a), some (.ref b), some (.ref c1), some (.ref c2)]) (i := 1) rfl ob2
    have v1 := var_ord (C := C) (σ := [some (.ref a), some (.ref b), some (.ref c1), some (.ref c2)]) (i := 2) rfl (o1.mono e2)
    have v2 := var_ord (C := C) (σ := [some (.ref a), some (.ref b), some (.ref c1), some (.ref c2)]) (i := 3) rfl o2
    have g1 := g_eqO (K := K) v1 (g_two (f := subK) va vb rR rS) r1.fine r1.fine
    have g2 := g_eqO (K := K) v2 (g_two (f := andK) va vb rR rS) r2.fine r2.fine
    rw [decide_eq_true rfl] at g1 g2
    refine EvP.st_ret (g_and g1 g2) fun v H3 e3 ev => ?_
    cases (show v = _ from ev)
    exact q _ ((e1.trans e2).trans e3)
end
end Od

set_option Elab.async false
set_option linter.all false
set_option maxRecDepth 100000
set_option maxHeartbeats 4000000
/-! _law_signs_right. -/
namespace Od
open PySem PySem.NumText PySem.Spec PyProof.Rows L2 EvP Cm Fk DtE Tb Fi KSet Wd
open Dg hiding numT
section
variable {K : PySem.W.Frag} {C CO CT : Addr} {σ : L2.St} {H : Hp} {ta tb te : TE} {tt : TT} {R S : List (List Key)} {P : PR}
theorem g_ifT (h : Tst tt σ H true) (k : EvP.Gives ta σ H P) : EvP.Gives (tIf tt ta tb) σ H P := fun H1 e Q q => h H1 e _ fun H2 e2 => by
  show (if true = true then _ else _)
  rw [if_pos rfl]
  exact k H2 (e.trans e2) Q fun v H3 e3 hv => q v H3 (e2.trans e3) hv
theorem g_ifF (h : Tst tt σ H false) (k : EvP.Gives tb σ H P) : EvP.Gives (tIf tt ta tb) σ H P := fun H1 e Q q => h H1 e _ fun H2 e2 => by
  show (if false = true then _ else _)
  rw [if_neg (by decide)]
  exact k H2 (e.trans e2) Q fun v H3 e3 hv => q v H3 (e2.trans e3) hv
theorem g_lst0 : EvP.Gives (tLst tNil) σ H (keysL []) := fun H1 e Q q => ⟨by show 0 ≤ sizeLine; decide, fun p hp => q _ _ (Ex.new hp) ⟨p, [], rfl, upd_same, (fun y hy => by cases hy), rfl⟩⟩
theorem g_neS {x y : Str} (h : EvP.Gives ta σ H (is (.str x))) (k : EvP.Gives tb σ H (is (.str y))) : EvP.Gives (tOp rNe ta tb) σ H (is (.bl (!decide (V.str x = V.str y)))) :=
  g_op h k fun a b H1 e ex ey Q q => by
    rw [show a = _ from ex, show b = _ from ey]
    exact ⟨rfl, q _ _ (Ex.refl _) rfl⟩
/-- two texts, deeply -/
theorem g_neDS {x : Str} (hx : SeqAt.shaped (.str x) = true) (h : EvP.Gives ta σ H (is (.str x))) (k : EvP.Gives tb σ H (is (.str x))) : EvP.Gives (tOp (rNeD K) ta tb) σ H (is (.bl false)) :=
  g_op h k fun a b H1 e ex ey Q q => by
    rw [show a = _ from ex, show b = _ from ey]
    refine ⟨.str x, .str x, .str x, .str x, hx, hx, ?_⟩
    rw [SeqAt.eqv_refl _ (SeqAt.canLay_of_shaped hx)]
    exact q _ _ (Ex.refl _) rfl
theorem not_of {b : Bool} (h : b = true) (g : EvP.Gives te σ H (is (.bl (!b)))) : EvP.Gives te σ H (is (.bl false)) := by
  rw [h] at g
  exact g
end
abbrev sSigns : Stmt := top 61
abbrev NSg : List Str := ["pen", "row", "rest", "one", "other", "common", "pair", "use", "source"]
theorem scSigns : FnScope NSg ["pen", "row", "rest"] (defScope sSigns) := ⟨rfl, rfl, rfl, by decide +kernel, rfl, by decide +kernel, by decide +kernel⟩
def spSigns : Sp := fun vs H Q _ => ∃ v l1 l2 ks ls, vs = [v, .ref l1, .ref l2] ∧ H l1 = some (.lst (refs ks)) ∧ H l2 = some (.lst (refs ls)) ∧ Lie H ks ∧ Lie H ls ∧ RowO (ks.map Prod.fst) ∧ RowO (ls.map Prod.fst) ∧ ks.length + ls.length ≤ 36 ∧ ∀ H', Ex H H' → Q (.bl true) H'
theorem nodup_app {R S : List (List Key)} (r : R.Nodup) (s : S.Nodup) : (R ++ S).Nodup ↔ andK R S = [] := by
  rw [List.nodup_append]
  unfold andK
  rw [List.filter_eq_nil_iff]
  constructor
  · rintro ⟨_, _, h⟩ z hz hs
    exact h z hz z (hasK_iff.mp hs) rfl
  · intro h
    exact ⟨r, s, fun a ha b hb e => h a ha (hasK_iff.mpr (e ▸ hb))⟩
theorem swapswap {R : List (List Key)} (f : Fine R) : (R.map swapK).map swapK = R := by
  rw [List.map_map]
  have : R.map (swapK ∘ swapK) = R.map id := List.map_congr_left fun k hk => swap_swap (f k hk)
  rw [this, List.map_id]
section
variable {P : Program} {w : World} {K : PySem.W.Frag} {mg : Str → Option Value} {base : Heap} {C CO CT f : Addr} {fd : FuncData}
theorem ok_signs (F : Fun K "_law_signs_right" "_law_signs_right" sSigns f fd) (T : Fk.Blt mg) (hL : mg "list" = none) (hRp : mg "repr" = none) (M : OrdQ P w K mg base C CO CT) (DJ : CalD P w K mg base 8 "_law_joined" ["one", "other"] (spJoined C)) (DB : CalD P w K mg base 8 "_law_bound" ["one", "other"] (spBound C)) (DW : CalD P w K mg base 1 "_law_is_within" ["row", "rest"] spWithin) : FnOk P w K mg base CX0 9 f fd ["pen", "row", "rest"] spSigns := by
  have nd := scSigns.nd
  refine F.ok scSigns (fun vs H Q E h => ?_) (fun cdv A outer s H vs Q E hr h => ?_)
  · obtain ⟨v, l1, l2, ks, ls, rfl, _⟩ := h
    rfl
  · obtain ⟨v, l1, l2, ks, ls, rfl, h1, h2, lie1, lie2, rR, rS, few, q⟩ := h
    refine ⟨_, pss_cons (ps_par (i := 3) (j := 4) rfl nd rfl rfl (by decide) rfl rfl (pa_cons (ClX.pe_cmeth (E := E0) (pe_glob (v := .ref C) (by rfl) M.gO rfl) M.r M.cO (FnOk.toR M.of M.ofB) (hr.mono (by decide)) passL (pa_cons (pv 1) pa_nil)) (pa_cons (ClX.pe_cmeth (E := E0) (pe_glob (v := .ref C) (by rfl) M.gO rfl) M.r M.cO (FnOk.toR M.of M.ofB) (hr.mono (by decide)) passL (pa_cons (pv 2) pa_nil)) pa_nil)) (by rfl))
      (pss_cons (ps_setLc (i := 5) (own := [("pair", 6)]) (g := gName 6) (tt := tTest (tOp (rInD K) (tVar 6) (tVar 2))) (te := tVar 6) rfl nd rfl rfl (by rfl) (pi_list (pv 1)) (blkOk_by (N := NSg) (sc := defScope sSigns) (by decide +kernel))
        (fun _ _ _ _ _ => by exact pg_name (i := 6) nd rfl (Or.inl rfl)) (fun _ _ _ _ _ => by exact pts_one (pt_cmpR (op_inD (hu65 hr)) (pv 6) (pv 2) (by rfl))) (fun _ _ _ _ _ => by exact pv 6))
      (pss_cons (ps_if (pt_cmpR (op_neD hr.units) (pe_call DJ.ok (hr.mono (by decide)) (by rfl) DJ.g DJ.kp DJ.b .nil pass0 (pa_cons (pv 3) (pa_cons (pv 4) pa_nil))) (pe_ifExp (pt_cmpR (op_eqD hr.units) (pv 5) (pe_lst pa_nil) (nomark _)) (pe_op op_cat (pv 1) (pv 2)) pe_str) (nomark _)) (pss_one (ps_ret pe_bl)) pss_nil)
      (pss_cons (ps_if (PW.pt (pw_or (pt_cmpR (op_neD hr.units) (pe_callTy (T := "list") (Own.call_listIt M.itA M.itN M.it M.itB M.len (hr.mono (by decide)) (hr.mono (by decide)) rfl) (by rfl) hL (by decide +kernel) (pa_cons (pe_op (Own.op_own (op := .Sub) M.sub M.first (hr.mono (by decide))) (pv 3) (pv 4)) pa_nil))
          (pe_lc (own := [("pair", 6)]) (g := gName 6) (tt := tTest (tOp (rNotInD K) (tVar 6) (tVar 2))) (te := tVar 6) rfl nd (pi_list (pv 1)) (blkOk_by (N := NSg) (sc := defScope sSigns) (by decide +kernel)) (fun _ _ _ _ _ => by exact pg_name (i := 6) nd rfl (Or.inl rfl)) (fun _ _ _ _ _ => by exact pts_one (pt_cmpR (op_notInD (hu65 hr)) (pv 6) (pv 2) (by rfl))) (fun _ _ _ _ _ => by exact pv 6)) (nomark _))
        (pw_or1 (pt_cmpR (op_neD hr.units) (pe_callTy (T := "list") (Own.call_listIt M.itA M.itN M.it M.itB M.len (hr.mono (by decide)) (hr.mono (by decide)) rfl) (by rfl) hL (by decide +kernel) (pa_cons (pe_op (Own.op_own (op := .BitAnd) M.and_ M.first (hr.mono (by decide))) (pv 3) (pv 4)) pa_nil)) (pv 5) (nomark _))))) (pss_one (ps_ret pe_bl)) pss_nil)
      (pss_cons (ps_if (PW.pt (pw_or (pt_cmpR (op_neD hr.units) (pe_callTy (T := "list") (Own.call_listIt M.itA M.itN M.it M.itB M.len (hr.mono (by decide)) (hr.mono (by decide)) rfl) (by rfl) hL (by decide +kernel) (pa_cons (pe_op (Own.op_own (op := .BitAnd) M.and_ M.first (hr.mono (by decide))) (pv 4) (pv 3)) pa_nil))
          (pe_lc (own := [("pair", 6)]) (g := gName 6) (tt := tTest (tOp (rInD K) (tVar 6) (tVar 1))) (te := tVar 6) rfl nd (pi_list (pv 2)) (blkOk_by (N := NSg) (sc := defScope sSigns) (by decide +kernel)) (fun _ _ _ _ _ => by exact pg_name (i := 6) nd rfl (Or.inl rfl)) (fun _ _ _ _ _ => by exact pts_one (pt_cmpR (op_inD (hu65 hr)) (pv 6) (pv 1) (by rfl))) (fun _ _ _ _ _ => by exact pv 6)) (nomark _))
        (pw_or1 (pt_not (pt_val (pe_call DB.ok (hr.mono (by decide)) (by rfl) DB.g DB.kp DB.b .nil pass0 (pa_cons (pv 3) (pa_cons (pv 4) pa_nil)))))))) (pss_one (ps_ret pe_bl)) pss_nil)
      (pss_cons (ps_if (PW.pt (pw_or (pt_cmpR op_ne (pe_callB call_reprB (by rfl) hRp (by decide +kernel) (pa_cons (pe_cmpR (Own.cmp_own (op := .LtE) M.le (hr.mono (by decide))) (pv 3) (pv 4) (nomark _)) pa_nil)) (pe_callB call_reprB (by rfl) hRp (by decide +kernel) (pa_cons (pe_call DW.ok (hr.mono (by decide)) (by rfl) DW.g DW.kp DW.b .nil pass0 (pa_cons (pv 1) (pa_cons (pv 2) pa_nil))) pa_nil)) (nomark _))
        (pw_or1 (pt_cmpR op_ne (pe_callB call_reprB (by rfl) hRp (by decide +kernel) (pa_cons (pe_cmpR (Own.cmp_own (op := .LtE) M.le (hr.mono (by decide))) (pv 4) (pv 3) (nomark _)) pa_nil)) (pe_callB call_reprB (by rfl) hRp (by decide +kernel) (pa_cons (pe_call DW.ok (hr.mono (by decide)) (by rfl) DW.g DW.kp DW.b .nil pass0 (pa_cons (pv 2) (pa_cons (pv 1) pa_nil))) pa_nil)) (nomark _))))) (pss_one (ps_ret pe_bl)) pss_nil)
      (pss_cons (ps_if (PW.pt (pw_or (pt_cmpR (op_neD hr.units) (pe_callTy (T := "list") (Own.call_listIt M.itA M.itN M.it M.itB M.len (hr.mono (by decide)) (hr.mono (by decide)) rfl) (by rfl) hL (by decide +kernel) (pa_cons (pe_un (Own.un_own M.inv (hr.mono (by decide))) (pv 3)) pa_nil))
          (pe_lc (own := [("source", 8), ("use", 7)]) (g := gTup K 2 (gCons (gName 8) (gCons (gName 7) gNil))) (tt := tYes) (te := tTup (tCons (tVar 7) (tCons (tVar 8) tNil))) rfl nd (pi_list (pv 1)) (blkOk_by (N := NSg) (sc := defScope sSigns) (by decide +kernel)) (fun _ _ _ _ _ => by exact pg_tup rfl (pgs_cons (pg_name (i := 8) nd rfl (Or.inl rfl)) (pgs_cons (pg_name (i := 7) nd rfl (Or.inl rfl)) pgs_nil))) (fun _ _ _ _ _ => pts_nil) (fun _ _ _ _ _ => by exact pe_tup (pa_cons (pv 7) (pa_cons (pv 8) pa_nil)))) (nomark _))
        (pw_or (pt_cmpR (Own.ne_own M.eq M.ne M.mro (hr.mono (by decide))) (pe_un (Own.un_own M.inv (hr.mono (by decide))) (pe_un (Own.un_own M.inv (hr.mono (by decide))) (pv 3))) (pv 3) (nomark _))
        (pw_or1 (pt_not (pt_cmpR (Own.cmp_own (op := .LtE) M.le (hr.mono (by decide))) (pv 3) (pv 3) (nomark _))))))) (pss_one (ps_ret pe_bl)) pss_nil)
      (pss_one (ps_ret (pe_and (pe_cmpR (op_eqD hr.units) (pe_callTy (T := "list") (Own.call_listIt M.itA M.itN M.it M.itB M.len (hr.mono (by decide)) (hr.mono (by decide)) rfl) (by rfl) hL (by decide +kernel) (pa_cons (pv 3) pa_nil)) (pv 1) (nomark _))
        (pe_one (pe_cmpR (op_eqD hr.units) (pe_callTy (T := "list") (Own.call_listIt M.itA M.itN M.it M.itB M.len (hr.mono (by decide)) (hr.mono (by decide)) rfl) (by rfl) hL (by decide +kernel) (pa_cons (pv 4) pa_nil)) (pv 2) (nomark _)))))))))))), ?_⟩
    have lR : (ks.map Prod.fst).length = ks.length := List.length_map ..
    have lS : (ls.map Prod.fst).length = ls.length := List.length_map ..
    generalize hRe : ks.map Prod.fst = R at rR lR
    generalize hSe : ls.map Prod.fst = S at rS lS
    have vr : ∀ {σ : L2.St} {H' : Hp}, Ex H H' → σ[1]? = some (some (.ref l1)) → EvP.Gives (tVar 1) σ H' (keysL R) := fun e hi => EvP.varP hi ⟨l1, ks, rfl, e _ _ h1, lie1.ex e, hRe⟩
    have vs : ∀ {σ : L2.St} {H' : Hp}, Ex H H' → σ[2]? = some (some (.ref l2)) → EvP.Gives (tVar 2) σ H' (keysL S) := fun e hi => EvP.varP hi ⟨l2, ls, rfl, e _ _ h2, lie2.ex e, hSe⟩
    -- one, other
    refine g_ofO (K := K) (C := C) (CO := CO) (CT := CT) (σ := L2.start NSg [v, .ref l1, .ref l2]) (vr (Ex.refl _) rfl) rR H (Ex.refl _) _ fun x1 H1 e1 hx1 => ?_
    obtain ⟨a, rfl, oa⟩ := hx1
    refine g_ofO (K := K) (C := C) (CO := CO) (CT := CT) (σ := L2.start NSg [v, .ref l1, .ref l2]) (vs e1 rfl) rS H1 (Ex.refl _) _ fun x2 H2 e2 hx2 => ?_
    obtain ⟨b, rfl, ob⟩ := hx2
    have e12 := e1.trans e2
    have oa2 := oa.mono e2
    refine ⟨_, _, rfl, ?_⟩
    -- common
    have gy1 : ∀ y ∈ ks, GoodP y.1 := fun y hy => rR.fine y.1 (by rw [← hRe]; exact List.mem_map_of_mem hy)
    have gy2 : ∀ y ∈ ls, GoodP y.1 := fun y hy => rS.fine y.1 (by rw [← hSe]; exact List.mem_map_of_mem hy)
    have gc : EvP.Gives (tLc (iList K (tVar 1)) (gName 6) (tTest (tOp (rInD K) (tVar 6) (tVar 2))) (tVar 6) [6]) [some v, some (.ref l1), some (.ref l2), some (.ref a), some (.ref b), none, none, none, none] H2 (keysL (andK R S)) := by
      have z := g_filt (K := K) (σ := [some v, some (.ref l1), some (.ref l2), some (.ref a), some (.ref b), none, none, none, none]) (H := H2) (i := 6) (j := 1) (vs := [6]) (l := l1) (ks := ks) (hasK S) rfl (e12 _ _ h1) (lie1.ex e12) (by omega) (fun _ => rfl) (fun _ => rfl) (fun y hy => t_test (g_inL (K := K) (i := 6) rfl ((lie1.ex e12) y hy) (gy1 y hy) (vs e12 rfl) rS.fine))
      rw [hRe] at z
      exact z
    refine EvP.st_set gc fun x3 H3 e3 hx3 => ?_
    obtain ⟨c, cs, rfl, hc, lc, ec⟩ := hx3
    have e13 := e12.trans e3
    have oa3 := oa2.mono e3
    have ob3 := ob.mono e3
    have rC : RowO (andK R S) := rR.filter _
    show tSeq _ _ _ [some v, some (.ref l1), some (.ref l2), some (.ref a), some (.ref b), some (.ref c), none, none, none] H3
    have va : ∀ {H'}, Ex H3 H' → EvP.Gives (tVar 3) [some v, some (.ref l1), some (.ref l2), some (.ref a), some (.ref b), some (.ref c), none, none, none] H' (ordP C R) := fun e => var_ord rfl (oa3.mono e)
    have vb : ∀ {H'}, Ex H3 H' → EvP.Gives (tVar 4) [some v, some (.ref l1), some (.ref l2), some (.ref a), some (.ref b), some (.ref c), none, none, none] H' (ordP C S) := fun e => var_ord rfl (ob3.mono e)
    have vc : ∀ {H'}, Ex H3 H' → EvP.Gives (tVar 5) [some v, some (.ref l1), some (.ref l2), some (.ref a), some (.ref b), some (.ref c), none, none, none] H' (keysL (andK R S)) := fun e => EvP.varP rfl ⟨c, cs, rfl, e _ _ hc, lc.ex e, ec⟩
    have lst_ : ∀ {te : TE} {H' : Hp} {T : List (List Key)}, EvP.Gives te [some v, some (.ref l1), some (.ref l2), some (.ref a), some (.ref b), some (.ref c), none, none, none] H' (ordP C T) → RowO T → EvP.Gives (tCB (Own.rListIt K C (spOIter C) (spOLen C)) (tCons te tNil)) [some v, some (.ref l1), some (.ref l2), some (.ref a), some (.ref b), some (.ref c), none, none, none] H' (keysL T) := fun g r => g_listO g (by have := r.few; omega)
    -- _law_joined
    refine st_ifF (t_test ?j) fun H4 e4 => ?_
    case j =>
      by_cases nn : (R ++ S).Nodup
      · have em := (nodup_app rR.nod rS.nod).mp nn
        have fRS : Fine (R ++ S) := fun k hk => (List.mem_append.mp hk).elim (rR.fine k) (rS.fine k)
        refine not_of (decide_eq_true rfl) (g_neK (K := K) (R := R ++ S) (S := R ++ S) (fun H' e Q' q' => ?_) (g_ifT (t_test ?_) (g_catK (vr e13 rfl) (vs e13 rfl) (by omega))) fRS fRS)
        · exact ⟨_, rfl, _, rfl, a, b, R, S, rfl, oa3.mono e, ob3.mono e, rR, rS, by rw [List.length_append]; omega, fun _ v' H'' e' hv => q' _ _ e' hv, fun z => absurd nn z⟩
        · have z := g_eqK (K := K) (vc (Ex.refl _)) (g_lst0 (σ := [some v, some (.ref l1), some (.ref l2), some (.ref a), some (.ref b), some (.ref c), none, none, none]) (H := H3)) rC.fine (fun k hk => by cases hk)
          rw [decide_eq_true em] at z
          exact z
      · have em : ¬ andK R S = [] := fun z => nn ((nodup_app rR.nod rS.nod).mpr z)
        refine g_neDS (K := K) (x := "twice") (by decide +kernel) (fun H' e Q' q' => ?_) (g_ifF (t_test ?_) EvP.cst)
        · exact ⟨_, rfl, _, rfl, a, b, R, S, rfl, oa3.mono e, ob3.mono e, rR, rS, by rw [List.length_append]; omega, fun z => absurd z nn, fun _ H'' e' => q' _ _ e' rfl⟩
        · have z := g_eqK (K := K) (vc (Ex.refl _)) (g_lst0 (σ := [some v, some (.ref l1), some (.ref l2), some (.ref a), some (.ref b), some (.ref c), none, none, none]) (H := H3)) rC.fine (fun k hk => by cases hk)
          rw [decide_eq_false em] at z
          exact z
    have rD : RowO (subK R S) := rR.filter _
    have g14 := e13.trans e4
    -- list(one - other), list(one & other)
    refine st_ifF (t_or (t_test ?m1) (t_test ?m2)) fun H5 e5 => ?_
    case m1 =>
      refine not_of (decide_eq_true rfl) (g_neK (K := K) (lst_ (g_two (f := subK) (va e4) (vb e4) rR rS) rD) ?_ rD.fine rD.fine)
      have z := g_filt (K := K) (σ := [some v, some (.ref l1), some (.ref l2), some (.ref a), some (.ref b), some (.ref c), none, none, none]) (H := H4) (i := 6) (j := 1) (vs := [6]) (l := l1) (ks := ks) (fun k => !hasK S k) rfl (g14 _ _ h1) (lie1.ex g14) (by omega) (fun _ => rfl) (fun _ => rfl) (fun y hy => t_test (g_notInL (K := K) (i := 6) rfl ((lie1.ex g14) y hy) (gy1 y hy) (vs g14 rfl) rS.fine))
      rw [hRe] at z
      exact z
    case m2 => exact not_of (decide_eq_true rfl) (g_neK (K := K) (lst_ (g_two (f := andK) (va e4) (vb e4) rR rS) rC) (vc e4) rC.fine rC.fine)
    have rE : RowO (andK S R) := rS.filter _
    have e35 := e4.trans e5
    have g15 := e13.trans e35
    -- list(other & one), _law_bound
    refine st_ifF (t_or (t_test ?n1) (t_not (b := true) (t_val fun H' e Q' q' => ⟨_, rfl, _, rfl, a, b, R, S, rfl, (oa3.mono e35).mono e, (ob3.mono e35).mono e, rR, rS, fun H'' e' => q' _ _ e' rfl⟩))) fun H6 e6 => ?_
    case n1 =>
      refine not_of (decide_eq_true rfl) (g_neK (K := K) (lst_ (g_two (f := andK) (vb e35) (va e35) rS rR) rE) ?_ rE.fine rE.fine)
      have z := g_filt (K := K) (σ := [some v, some (.ref l1), some (.ref l2), some (.ref a), some (.ref b), some (.ref c), none, none, none]) (H := H5) (i := 6) (j := 2) (vs := [6]) (l := l2) (ks := ls) (hasK R) rfl (g15 _ _ h2) (lie2.ex g15) (by omega) (fun _ => rfl) (fun _ => rfl) (fun y hy => t_test (g_inL (K := K) (i := 6) rfl ((lie2.ex g15) y hy) (gy2 y hy) (vr g15 rfl) rR.fine))
      rw [hSe] at z
      exact z
    have e36 := e35.trans e6
    have g16 := e13.trans e36
    have wi : ∀ {σ : L2.St} {H' : Hp}, Ex H H' → σ[1]? = some (some (.ref l1)) → σ[2]? = some (some (.ref l2)) → EvP.Gives (tCall spWithin [] E0 (tCons (tVar 1) (tCons (tVar 2) tNil))) σ H' (is (.bl (decide (R = andK S R)))) := fun e i1 i2 H' e' Q' q' => by
      refine ⟨_, i1, _, i2, l1, l2, ks, ls, rfl, e' _ _ (e _ _ h1), e' _ _ (e _ _ h2), (lie1.ex e).ex e', (lie2.ex e).ex e', by rw [hRe]; exact rR, by rw [hSe]; exact rS, ?_⟩
      rw [hRe, hSe]
      exact q' _ _ (Ex.refl _) rfl
    have wj : ∀ {σ : L2.St} {H' : Hp}, Ex H H' → σ[1]? = some (some (.ref l1)) → σ[2]? = some (some (.ref l2)) → EvP.Gives (tCall spWithin [] E0 (tCons (tVar 2) (tCons (tVar 1) tNil))) σ H' (is (.bl (decide (S = andK R S)))) := fun e i1 i2 H' e' Q' q' => by
      refine ⟨_, i2, _, i1, l2, l1, ls, ks, rfl, e' _ _ (e _ _ h2), e' _ _ (e _ _ h1), (lie2.ex e).ex e', (lie1.ex e).ex e', by rw [hSe]; exact rS, by rw [hRe]; exact rR, ?_⟩
      rw [hRe, hSe]
      exact q' _ _ (Ex.refl _) rfl
    -- repr(one <= other)
    refine st_ifF (t_or (t_test (not_of (decide_eq_true rfl) (g_neS (g_reprB (g_leO (K := K) (va e36) (vb e36) rR rS)) (g_reprB (wi g16 rfl rfl))))) (t_test (not_of (decide_eq_true rfl) (g_neS (g_reprB (g_leO (K := K) (vb e36) (va e36) rS rR)) (g_reprB (wj g16 rfl rfl)))))) fun H7 e7 => ?_
    have e37 := e36.trans e7
    have g17 := e13.trans e37
    -- ~one
    refine st_ifF (t_or (t_test ?i1) (t_or (t_test ?i2) (t_not (b := true) (t_test ?i3)))) fun H8 e8 => ?_
    case i1 =>
      refine not_of (decide_eq_true rfl) (g_neK (K := K) (R := R.map swapK) (S := R.map swapK) (lst_ (g_invO (va e37) rR) rR.swap) (fun H' e Q' q' => ?_) rR.swap.fine rR.swap.fine)
      have g1 := g17.trans e
      have gp : EvP.Gives (tLc (iList K (tVar 1)) (gTup K 2 (gCons (gName 8) (gCons (gName 7) gNil))) tYes (tTup (tCons (tVar 7) (tCons (tVar 8) tNil))) [8, 7]) [some v, some (.ref l1), some (.ref l2), some (.ref a), some (.ref b), some (.ref c), none, none, none] H' (lst H' ((R.map swapK).map isK)) := by
        refine compP (xs := refs ks) (walks_list (EvP.varP (i := 1) rfl ⟨l1, rfl, g1 _ _ h1⟩)) (by rw [List.length_map]; omega) (by rw [List.length_map, List.length_map, List.length_map, lR]) (fun j x P hx hP => ?_) (fun P hP => ?_)
        · rw [List.getElem?_map] at hx
          rw [List.map_map, List.getElem?_map] at hP
          obtain ⟨k, hk, rfl⟩ := Option.map_eq_some_iff.mp hP
          obtain ⟨y, hy, rfl⟩ := Option.map_eq_some_iff.mp hx
          have ey : y.1 = k := by
            rw [← hRe, List.getElem?_map, hy] at hk
            exact Option.some.inj hk
          subst ey
          have hb := (lie1.ex g1) y (List.mem_of_getElem? hy)
          obtain ⟨n1, n2, ek, _, _⟩ := rR.fine y.1 (List.mem_of_getElem? hk)
          rw [ek] at hb
          refine ⟨[some v, some (.ref l1), some (.ref l2), some (.ref a), some (.ref b), some (.ref c), none, some (.str n2), some (.str n1)], rfl, fun H1 e Q k => ⟨y.2, _, rfl, SqT.of (e _ _ hb), rfl, _, _, rfl, _, _, rfl, rfl, k⟩, fun H1 e Q k => ?_⟩
          refine ⟨_, rfl, _, rfl, by show 2 ≤ sizeLine; decide, fun t ht => k _ _ (Ex.new ht) ⟨t, rfl, ?_⟩⟩
          rw [upd_same, ek]
          rfl
        · obtain ⟨k, _, rfl⟩ := List.mem_map.mp hP
          exact stays_isK _
      refine gp H' (Ex.refl _) _ fun v' H'' e'' hv => ?_
      obtain ⟨l, ws, rfl, hl, _, al⟩ := hv
      obtain ⟨kas, rfl, ek, lk⟩ := all2_refs al
      exact q' _ _ e'' ⟨l, kas, rfl, hl, lk, ek⟩
    case i2 =>
      have z := g_neO (K := K) (g_invO (g_invO (va e37) rR) rR.swap) (va e37) rR.swap.swap.fine rR.fine
      rw [swapswap rR.fine] at z
      exact not_of (decide_eq_true rfl) z
    case i3 =>
      have z := g_leO (K := K) (va e37) (va e37) rR rR
      have e0 : R = andK R R := (List.filter_eq_self.mpr fun k hk => hasK_iff.mpr hk).symm
      rw [decide_eq_true e0] at z
      exact z
    have e38 := e37.trans e8
    have g18 := e13.trans e38
    have z1 := g_eqK (K := K) (lst_ (va e38) rR) (vr g18 rfl) rR.fine rR.fine
    have z2 := g_eqK (K := K) (lst_ (vb e38) rS) (vs g18 rfl) rS.fine rS.fine
    rw [decide_eq_true rfl] at z1 z2
    refine EvP.st_ret (g_and z1 z2) fun v' H9 e9 ev => ?_
    cases (show v' = _ from ev)
    exact q _ (g18.trans e9)
end
end Od

set_option Elab.async false
set_option linter.all false
set_option maxRecDepth 100000
set_option maxHeartbeats 4000000
/-! _law_near. -/
namespace Od
open PySem PySem.NumText PySem.Spec PyProof.Rows L2 EvP Cm Fk DtE Tb Fi KSet Wd
open K19 (Pen But spPick spDraw spPen)
open Dg hiding numT
abbrev sNear : Stmt := top 60
abbrev NNe : List Str := ["pen", "row", "some", "way", "pair"]
theorem scNear : FnScope NNe ["pen", "row"] (defScope sNear) := ⟨rfl, rfl, rfl, by decide +kernel, rfl, by decide +kernel, by decide +kernel⟩
/-- a row that the law draws near another one -/
structure NearO (R : List (List Key)) : Prop where
  nod : R.Nodup
  fine : Fine R
  few : R.length ≤ 40
def spNear : Sp := fun vs H Q _ => ∃ (p q : Addr) (ns : List Int) (s g : Int) (l : Addr) (ks : List (List Key × Addr)), vs = [.ref p, .ref l] ∧ Pen H p q ns s g ∧ ns.length ≤ 63 ∧ 0 ≤ s ∧ s < 80000 ∧ H l = some (.lst (refs ks)) ∧ l ≠ p ∧ Lie H ks ∧ RowO (ks.map Prod.fst) ∧ key2 "late" "x" ∉ ks.map Prod.fst ∧
  ∀ (f : Addr) (fk : List (List Key × Addr)) (s' g' : Int) (H' : Hp), NearO (fk.map Prod.fst) → H' f = some (.lst (refs fk)) → Lie H' fk → s ≤ s' → s' ≤ s + 200 → Pen H' p q ns s' g' → But p H H' → Q (.ref f) H'
theorem lie_but {H H' : Hp} {p q : Addr} {ns : List Int} {s g : Int} {ks : List (List Key × Addr)} (h : Lie H ks) (hP : Pen H p q ns s g) (b : But p H H') : Lie H' ks := fun y hy => b _ _ (h y hy) (ne_of (h y hy) hP.p fun z => nomatch z)
theorem but_trans {p : Addr} {H H1 H2 : Hp} (a : But p H H1) (b : But p H1 H2) : But p H H2 := fun x o hx nx => b x o (a x o hx nx) nx
theorem but_ex {p : Addr} {H H1 H2 : Hp} (a : But p H H1) (e : Ex H1 H2) : But p H H2 := fun x o hx nx => e x o (a x o hx nx)
theorem pen_ex {H H' : Hp} {p q : Addr} {ns : List Int} {s g : Int} (x : Pen H p q ns s g) (e : Ex H H') : Pen H' p q ns s g := ⟨e _ _ x.p, e _ _ x.q⟩
theorem refs_snoc (ks : List (List Key × Addr)) (y : List Key × Addr) : refs (ks ++ [y]) = refs ks ++ [.ref y.2] := by
  unfold refs
  rw [List.map_append]
  rfl
theorem near_sub {fk ks : List (List Key × Addr)} (h : fk.Sublist ks) (r : RowO (ks.map Prod.fst)) : NearO (fk.map Prod.fst) := by
  have s := h.map Prod.fst
  exact ⟨r.nod.sublist s, fun k hk => r.fine k (s.subset hk), Nat.le_trans s.length_le (Nat.le_trans r.few (by decide))⟩
section
variable {P : Program} {w : World} {K : PySem.W.Frag} {mg : Str → Option Value} {base : Heap} {C CO CT f : Addr} {fd : FuncData}
theorem t_eqI {σ : L2.St} {H : Hp} {i : Nat} {m n : Int} {b : Bool} (hi : σ[i]? = some (some (.int m))) (hb : decide (m = n) = b) : Tst (tTest (tOp rEq (tVar i) (tC (.int n)))) σ H b := fun H1 e Q q => by
  refine ⟨_, hi, rfl, b, ?_, q H1 (Ex.refl _)⟩
  rw [← hb]
  by_cases c : m = n
  · rw [decide_eq_true c, decide_eq_true (by rw [c])]
  · rw [decide_eq_false c, decide_eq_false (fun z => c (V.int.inj z))]
theorem g_filtG {σ : L2.St} {H : Hp} {te : TE} {i : Nat} {vs : List Nat} {ks : List (List Key × Addr)} {tt : TT} (keep : List Key → Bool) (h : EvP.Gives te σ H (lstV (refs ks))) (lie : Lie H ks) (few : ks.length ≤ 1000) (wp : ∀ x, wipe ((wipe σ vs).set i (some x)) vs = wipe σ vs) (hi : ∀ x, ((wipe σ vs).set i (some x))[i]? = some (some x))
    (ht : ∀ y ∈ ks, Tst tt ((wipe σ vs).set i (some (.ref y.2))) H (keep y.1)) : EvP.Gives (tLc (iList K te) (gName i) tt (tVar i) vs) σ H (lstV (refs (ks.filter fun y => keep y.1))) :=
  compK keep (walks_list h) few wp hi ht
theorem ok_near (F : Fun K "_law_near" "_law_near" sNear f fd) (DD : CalD P w K mg base 1 "_law_draw" ["pen", "many"] spDraw) (DM : CalD P w K mg base 3 "_law_mixed" ["pen", "some"] (spMixed K)) (DR : CalD P w K mg base 4 "_law_row" ["pen"] spRowO) : FnOk P w K mg base CX0 5 f fd ["pen", "row"] spNear := by
  have nd := scNear.nd
  refine F.ok scNear (fun vs H Q E h => ?_) (fun cdv A outer s0 H vs Q E hr h => ?_)
  · obtain ⟨p, q, ns, s, g, l, ks, rfl, _⟩ := h
    rfl
  · obtain ⟨p, q, ns, s, g, l, ks, rfl, hP, hns, s0, s8, hl, lp, lie, rR, nl, k⟩ := h
    refine ⟨_, pss_cons (ps_setLc (i := 2) (own := [("pair", 4)]) (g := gName 4) (tt := tTest (tOp (rI0 fun i j => .bl (decide (j < i))) (tCall spDraw [] E0 (tCons (tVar 0) (tCons (tC (.int 3)) tNil))) (tC (.int 0)))) (te := tVar 4) rfl nd rfl rfl (by rfl) (pi_list (pv 1)) (blkOk_by (N := NNe) (sc := defScope sNear) (by decide +kernel))
        (fun _ _ _ _ _ => by exact pg_name (i := 4) nd rfl (Or.inl rfl)) (fun _ _ _ _ _ => by exact pts_one (pt_cmpR op_gt (pe_call DD.ok (hr.mono (by decide)) (by rfl) DD.g DD.kp DD.b .nil pass0 (pa_cons (pv 0) (pa_cons pe_int pa_nil))) pe_int (nomark _))) (fun _ _ _ _ _ => by exact pv 4))
      (pss_cons (ps_set (i := 3) nd rfl (Or.inl rfl) (pe_call DD.ok (hr.mono (by decide)) (by rfl) DD.g DD.kp DD.b .nil pass0 (pa_cons (pv 0) (pa_cons pe_int pa_nil))))
      (pss_cons (ps_if (pt_cmpR op_eq (pv 3) pe_int (nomark _)) (pss_one (ps_ret (pv 2))) pss_nil)
      (pss_cons (ps_if (pt_cmpR op_eq (pv 3) pe_int (nomark _)) (pss_one (ps_ret (pe_call DM.ok (hr.mono (by decide)) (by rfl) DM.g DM.kp DM.b .nil pass0 (pa_cons (pv 0) (pa_cons (pv 2) pa_nil))))) pss_nil)
      (pss_cons (ps_if (pt_cmpR op_eq (pv 3) pe_int (nomark _)) (pss_one (ps_ret (pe_call DR.ok (hr.mono (by decide)) (by rfl) DR.g DR.kp DR.b .nil pass0 (pa_cons (pv 0) pa_nil)))) pss_nil)
      (pss_one (ps_ret (pe_ifExp (pt_cmpR op_eq (pv 3) pe_int (nomark _))
        (pe_lc (own := [("pair", 4)]) (g := gName 4) (tt := tTest (tOp (rNotInD K) (tVar 4) (tVar 1))) (te := tVar 4) rfl nd (pi_list (pe_call DR.ok (hr.mono (by decide)) (by rfl) DR.g DR.kp DR.b .nil pass0 (pa_cons (pv 0) pa_nil))) (blkOk_by (N := NNe) (sc := defScope sNear) (by decide +kernel)) (fun _ _ _ _ _ => by exact pg_name (i := 4) nd rfl (Or.inl rfl)) (fun _ _ _ _ _ => by exact pts_one (pt_cmpR (op_notInD (hu65 hr)) (pv 4) (pv 1) (by rfl))) (fun _ _ _ _ _ => by exact pv 4))
        (pe_op op_cat (pv 2) (pe_lst (pa_cons (pe_tup (pa_cons pe_str (pa_cons pe_str pa_nil))) pa_nil)))))))))), ?_⟩
    have few := rR.few
    rw [List.length_map] at few
    have lr : (refs ks).length = ks.length := List.length_map ..
    -- some = [pair for pair in row if _law_draw(pen, 3) > 0]
    refine ⟨_, rfl, l, rfl, ⟨_, SqL.of hl⟩, fun D hD => lc_it (walk_list (xs := refs ks)) (fun j H' => ∃ (fk : List (List Key × Addr)) (s' g' : Int), H' D = some (.lst (refs fk)) ∧ fk.Sublist (ks.take j) ∧ s ≤ s' ∧ s' ≤ s + (j : Int) ∧ Pen H' p q ns s' g' ∧ But p H H')
      ⟨[], s, g, upd_same, List.nil_sublist _, Int.le_refl _, by omega, pen_ex hP (Ex.new hD), fun b o hb _ => Ex.new hD _ _ hb⟩ (fun j H' _ ⟨_, _, _, _, _, _, _, _, bt⟩ => SqL.of (bt _ _ hl lp)) (fun j x H1 H2 hj z y => ?_) (fun H1 z => ?_)⟩
    · obtain ⟨fk, s1, g1, hfk, sub, a0, a1, hP1, bt1⟩ := z
      obtain ⟨rfl, hx⟩ := y
      unfold refs at hx
      rw [List.getElem?_map] at hx
      obtain ⟨y, hy, rfl⟩ := Option.map_eq_some_iff.mp hx
      have tk : ks.take (j + 1) = ks.take j ++ [y] := by
        rw [List.take_add_one, hy]
        rfl
      rw [lr] at hj
      refine ⟨rfl, _, rfl, p, q, ns, s1, g1, _, rfl, hP1, hns, by omega, by omega, by omega, by omega, fun m s2 g2 H3 m0 m1 b0 b1 hP3 bt3 => ?_⟩
      have Dp_ : D ≠ p := (ne_of_none hP.p hD).symm
      have Dq : D ≠ q := (ne_of_none hP.q hD).symm
      have hfk3 := bt3 _ _ hfk Dp_
      refine ⟨_, _, rfl, rfl, decide ((0 : Int) < m), rfl, ?_⟩
      by_cases c : (0 : Int) < m
      · rw [decide_eq_true c]
        refine ⟨.ref y.2, rfl, _, hfk3, ?_, fk ++ [y], s2, g2, by rw [upd_same, refs_snoc], by rw [tk]; exact sub.append (List.Sublist.refl _), by omega, by push_cast; omega, ⟨by rw [upd_ne Dp_.symm]; exact hP3.p, by rw [upd_ne Dq.symm]; exact hP3.q⟩, fun b o hb nb => ?_⟩
        · have l1 := sub.length_le
          rw [List.length_take] at l1
          unfold refs
          rw [List.length_map, sizeLine_eq]
          omega
        · rw [upd_ne (ne_of_none hb hD)]
          exact bt3 _ _ (bt1 _ _ hb nb) nb
      · rw [decide_eq_false c]
        refine ⟨fk, s2, g2, hfk3, by rw [tk]; exact sub.trans (List.sublist_append_left _ _), by omega, by push_cast; omega, hP3, fun b o hb nb => bt3 _ _ (bt1 _ _ hb nb) nb⟩
    · obtain ⟨fk, s1, g1, hfk, sub, a0, a1, hP1, bt1⟩ := z
      rw [lr] at a1 sub
      rw [List.take_length] at sub
      have Dp_ : D ≠ p := (ne_of_none hP.p hD).symm
      -- way
      refine ⟨_, rfl, p, q, ns, s1, g1, _, rfl, hP1, hns, by omega, by omega, by omega, by omega, fun m s2 g2 H3 m0 m1 b0 b1 hP3 bt3 => ?_⟩
      have bt : But p H H3 := but_trans bt1 bt3
      have hD3 := bt3 _ _ hfk Dp_
      have hl3 := bt _ _ hl lp
      have lieF : Lie H3 fk := lie_but (fun y hy => lie y (sub.subset hy)) hP bt
      have nF := near_sub sub rR
      have lfk := sub.length_le
      have mix : ∀ {H4 : Hp}, Ex H3 H4 → tRet (tCall (spMixed K) [] E0 (tCons (tVar 0) (tCons (tVar 2) tNil))) { nx := fun _ H' => Q .non H', rt := Q } [some (.ref p), some (.ref l), some (.ref D), some (.int m), none] H4 := fun {H4} e4 => by
        refine ⟨_, rfl, _, rfl, p, q, ns, s2, g2, D, fk.map itK, rfl, pen_ex hP3 e4, hns, by omega, by omega, by rw [vals_keys]; exact e4 _ _ hD3, Dp_, by rw [List.length_map]; omega, fun x hx => ?_, fun f2 fnd s5 g5 H5 pm nf hf t0 t1 hP5 bt5 => ?_⟩
        · obtain ⟨y, hy, rfl⟩ := List.mem_map.mp hx
          exact ⟨.inr ⟨y.2, y.1, rfl, e4 _ _ (lieF y hy)⟩, flat_key (nF.fine y.1 (List.mem_map_of_mem hy))⟩
        · obtain ⟨fm, pk, rfl⟩ := perm_map itK pm
          rw [vals_keys] at hf
          rw [List.length_map] at t1
          have pf := pk.map Prod.fst
          exact k f2 fm s5 g5 H5 ⟨pf.nodup_iff.mpr nF.nod, fun z hz => nF.fine z (pf.mem_iff.mp hz), by rw [pf.length_eq]; exact nF.few⟩ hf (lie_but (fun y hy => e4 _ _ (lieF y (pk.mem_iff.mp hy))) (pen_ex hP3 e4) bt5) (by omega) (by omega) hP5 (but_trans (but_ex bt e4) bt5)
      have sg : ∀ {m' : Int}, m = m' → decide (m = m') = true := fun h => decide_eq_true h
      by_cases c0 : m = 0
      · refine st_ifT (t_eqI (i := 3) rfl (sg c0)) fun H4 e4 => ?_
        exact ⟨_, rfl, k D fk s2 g2 H4 nF (e4 _ _ hD3) (lieF.ex e4) (by omega) (by omega) (pen_ex hP3 e4) (but_ex bt e4)⟩
      refine st_ifF (t_eqI (i := 3) rfl (decide_eq_false c0)) fun H4 e4 => ?_
      by_cases c1 : m = 1
      · refine st_ifT (t_eqI (i := 3) rfl (sg c1)) fun H5 e5 => ?_
        exact mix (e4.trans e5)
      refine st_ifF (t_eqI (i := 3) rfl (decide_eq_false c1)) fun H5 e5 => ?_
      have e35 := e4.trans e5
      by_cases c2 : m = 2
      · refine st_ifT (t_eqI (i := 3) rfl (sg c2)) fun H6 e6 => ?_
        have e36 := e35.trans e6
        refine ⟨_, rfl, p, q, ns, s2, g2, rfl, pen_ex hP3 e36, hns, by omega, by omega, fun f2 kr s7 g7 H7 go nf hf lie7 t0 t1 hP7 bt7 => ?_⟩
        exact k f2 kr s7 g7 H7 ⟨go.nod, go.key, Nat.le_trans go.few (by decide)⟩ hf lie7 (by omega) (by omega) hP7 (but_trans (but_ex bt e36) bt7)
      refine st_ifF (t_eqI (i := 3) rfl (decide_eq_false c2)) fun H6 e6 => ?_
      have e36 := e35.trans e6
      refine (t_eqI (i := 3) (n := 3) (b := decide (m = 3)) rfl rfl) H6 (Ex.refl _) _ fun H7 e7 => ?_
      have e37 := e36.trans e7
      by_cases c3 : m = 3
      · rw [decide_eq_true c3]
        refine (if_pos rfl).mpr ?_
        refine ⟨_, rfl, p, q, ns, s2, g2, rfl, pen_ex hP3 e37, hns, by omega, by omega, fun f2 kr s8 g8 H8 go nf hf lie8 t0 t1 hP8 bt8 => ?_⟩
        have hl8 : H8 l = some (.lst (refs ks)) := bt8 _ _ (e37 _ _ hl3) lp
        have lieK8 : Lie H8 ks := lie_but (fun y hy => e37 _ _ (bt _ _ (lie y hy) (ne_of (lie y hy) hP.p fun z => nomatch z))) (pen_ex hP3 e37) bt8
        have gk : ∀ y ∈ kr, GoodP y.1 := fun y hy => go.key y.1 (List.mem_map_of_mem hy)
        have lkr : kr.length ≤ 36 := by
          have := go.few
          rw [List.length_map] at this
          exact this
        refine g_filtG (K := K) (σ := [some (.ref p), some (.ref l), some (.ref D), some (.int m), none]) (te := tC (.ref f2)) (i := 4) (vs := [4]) (fun z => !hasK (ks.map Prod.fst) z) (fun H' e' Q' q' => q' _ _ (Ex.refl _) ⟨f2, rfl, e' _ _ hf⟩) lie8 (by omega) (fun _ => rfl) (fun _ => rfl) (fun y hy => t_test (g_notInL (K := K) (i := 4) rfl (lie8 y hy) (gk y hy) (var_keys (i := 1) rfl hl8 lieK8) rR.fine)) H8 (Ex.refl _) _ fun v H9 e9 hv => ?_
        obtain ⟨r, rfl, hr9⟩ := hv
        have sub8 : (kr.filter fun y => !hasK (ks.map Prod.fst) y.1).Sublist kr := List.filter_sublist
        have sm := sub8.map Prod.fst
        exact k r _ s8 g8 H9 ⟨go.nod.sublist sm, fun z hz => go.key z (sm.subset hz), Nat.le_trans sm.length_le (Nat.le_trans go.few (by decide))⟩ hr9 (fun y hy => e9 _ _ (lie8 y (sub8.subset hy))) (by omega) (by omega) (pen_ex hP8 e9) (but_ex (but_trans (but_ex bt e37) bt8) e9)
      · rw [decide_eq_false c3]
        refine (if_neg (by decide)).mpr ?_
        refine ⟨_, rfl, by show 2 ≤ sizeLine; decide, fun t ht => ⟨by show 1 ≤ sizeLine; decide, fun r nr => ?_⟩⟩
        have et := e37.trans ((Ex.new (o := .tup [.str "late", .str "x"]) ht).trans (Ex.new (o := .lst [.ref t]) nr))
        have ht2 := Ex.new (o := .lst [.ref t]) nr t _ (upd_same (H := H7) (a := t) (o := .tup [.str "late", .str "x"]))
        refine ⟨D, r, refs fk, [.ref t], rfl, rfl, et _ _ hD3, upd_same, ?_, fun u nu => ?_⟩
        · unfold refs
          rw [List.length_map, sizeLine_eq]
          show fk.length + 1 ≤ _
          omega
        have eu := Ex.new (o := .lst (refs fk ++ [.ref t])) nu
        have nlF : key2 "late" "x" ∉ fk.map Prod.fst := fun hk => nl ((sub.map Prod.fst).subset hk)
        refine k u (fk ++ [(key2 "late" "x", t)]) s2 g2 _ ⟨?_, ?_, ?_⟩ (by rw [upd_same, refs_snoc]) (fun y hy => ?_) (by omega) (by omega) (pen_ex (pen_ex hP3 et) eu) (but_ex (but_ex bt et) eu)
        · rw [List.map_append]
          refine List.nodup_append.mpr ⟨nF.nod, by simp, fun a ha b hb e => ?_⟩
          cases List.mem_singleton.mp hb
          have ea : a = key2 "late" "x" := e
          rw [ea] at ha
          exact nlF ha
        · intro z hz
          rw [List.map_append] at hz
          rcases List.mem_append.mp hz with hz | hz
          · exact nF.fine z hz
          · cases List.mem_singleton.mp hz
            exact ⟨"late", "x", rfl, by decide +kernel, by decide +kernel⟩
        · rw [List.length_map, List.length_append]
          show fk.length + 1 ≤ 40
          omega
        · rcases List.mem_append.mp hy with hy | hy
          · exact eu _ _ (et _ _ (lieF y hy))
          · cases List.mem_singleton.mp hy
            exact eu _ _ ht2
end
end Od

set_option Elab.async false
set_option linter.all false
set_option maxRecDepth 100000
set_option maxHeartbeats 4000000
/-! check_pairs, Order.reduced of a list or a tuple; a pair moved to its own place. -/
namespace Od
open PySem PySem.NumText PySem.Spec PyProof.Rows L2 EvP Cm Fk DtE Tb Fi KSet Wd
open Dg hiding numT
/-- a tuple that stays readable -/
def TupS (K : PySem.W.Frag) (H : Hp) (t : Addr) (xs : List V) : Prop := ∀ H', Ex H H' → SqT K H' t xs
theorem TupS.of {K : PySem.W.Frag} {H : Hp} {t : Addr} {xs : List V} (h : H t = some (.tup xs)) : TupS K H t xs := fun H' e => SqT.of (e _ _ h)
theorem TupS.ex {K : PySem.W.Frag} {H H' : Hp} {t : Addr} {xs : List V} (h : TupS K H t xs) (e : Ex H H') : TupS K H' t xs := fun H2 e2 => h H2 (e.trans e2)
theorem movK_self {R : List (List Key)} {x : List Key} {j : Nat} (nd : R.Nodup) (h : R[j]? = some x) : movK R x j = R := by
  obtain ⟨hj, hx⟩ := List.getElem?_eq_some_iff.mp h
  have e : R = R.take j ++ x :: R.drop (j + 1) := by
    rw [← hx, ← List.drop_eq_getElem_cons hj, List.take_append_drop]
  have la : (R.take j).length = j := by rw [List.length_take]; omega
  generalize hA : R.take j = A at e la
  generalize hB : R.drop (j + 1) = B at e
  clear hA hB h hj hx
  subst e
  rw [List.nodup_append] at nd
  obtain ⟨nA, nB, d⟩ := nd
  rw [List.nodup_cons] at nB
  have fa : A.filter (fun z => !decide (z = x)) = A := List.filter_eq_self.mpr fun z hz => by
    rw [decide_eq_false (d z hz x (.head _))]
    rfl
  have fb : (x :: B).filter (fun z => !decide (z = x)) = B := by
    rw [List.filter_cons, decide_eq_true rfl]
    simp only [Bool.not_true, Bool.false_eq_true, if_false]
    exact List.filter_eq_self.mpr fun z hz => by
      rw [decide_eq_false (fun e : z = x => nB.1 (by rw [← e]; exact hz))]
      rfl
  unfold movK
  rw [List.filter_append, fa, fb, ← la, List.take_left, List.drop_left]
def spChkA (K : PySem.W.Frag) : Sp := fun vs H Q _ => ∃ (t : Addr) (ks : List (List Key × Addr)), vs = [.ref t] ∧ (H t = some (.lst (refs ks)) ∨ TupS K H t (refs ks)) ∧ Lie H ks ∧ (∀ y ∈ ks, PairK y.1) ∧ ∀ H', Ex H H' → Q .non H'
def spORedA (K : PySem.W.Frag) (C : Addr) : Sp := fun vs H Q _ => ∃ a l R kl, vs = [.ref a, .ref l] ∧ OrdAt C H a R ∧ RowO R ∧ (H l = some (.lst (refs kl)) ∨ TupS K H l (refs kl)) ∧ Lie H kl ∧ Fine (kl.map Prod.fst) ∧ kl.length ≤ 100 ∧ ∀ c H', Ex H H' → OrdAt C H' c (andK R (kl.map Prod.fst)) → Q (.ref c) H'
section
variable {P : Program} {w : World} {K : PySem.W.Frag} {mg : Str → Option Value} {base : Heap} {C CO CT f fP fR fK fOf pOf : Addr} {fd fdP fdR fdK fdOf : FuncData}
theorem ok_chkA (F : Fun K "check_pairs" "check_pairs" sChk f fd) (GP : FnOk P w K mg base CX0 2 fP fdP ["value"] (spPair K)) (bP : Binds K fdP ["value"] []) (gP : mg "is_pair" = some (.ref fP)) (kP : PySem.W.keepIn K (.ref fP) = true) : FnOk P w K mg base CX0 3 f fd ["values"] (spChkA K) := by
  have nd := scChk.nd
  refine F.ok scChk (fun vs H Q E h => ?_) (fun cdv A outer s H vs Q E hr h => ?_)
  · obtain ⟨t, ks, rfl, _⟩ := h
    rfl
  · obtain ⟨t, ks, rfl, ht, lie, pk, q⟩ := h
    have step : ∀ (n : Nat) (x : V) (o : L2.St) (H' : Hp), (∃ z, o = [some (.ref t), z] ∧ Ex H H') → (refs ks)[n]? = some x → ∃ yk ∈ ks, x = .ref yk.2 ∧ ∃ a b, yk.1 = key2 a b ∧ H' yk.2 = some (.tup ((key2 a b).map kV)) ∧ NameV (V.str a) ∧ NameV (V.str b) := by
      rintro n x o H' ⟨z, rfl, e⟩ hx
      unfold refs at hx
      rw [List.getElem?_map] at hx
      obtain ⟨yk, hy, rfl⟩ := Option.map_eq_some_iff.mp hx
      have my := List.mem_of_getElem? hy
      obtain ⟨a, b, ek, na, nb⟩ := pk yk my
      have hb := e _ _ (lie yk my)
      rw [ek] at hb
      exact ⟨yk, my, rfl, a, b, ek, hb, na, nb⟩
    rcases ht with ht | ht
    · refine ⟨_, pss_one (ps_for PassesOwn.never rfl (pi_list (pv 0)) (pg_name (i := 1) nd rfl (Or.inl rfl))
        (pss_one (ps_if (pt_not (pt_val (pe_call GP hr (by rfl) gP kP bP .nil pass0 (pa_cons (pv 1) pa_nil)))) pss_dead pss_nil))), ?_⟩
      refine ⟨_, rfl, t, rfl, ⟨_, SqL.of ht⟩, for_it (walk_list (xs := refs ks)) (fun i σ H' => ∃ z, σ = [some (.ref t), z] ∧ Ex H H') ⟨none, rfl, Ex.refl _⟩ (fun i σ H' _ ⟨_, _, e⟩ => SqL.of (e _ _ ht)) (fun i x σ H' H2 hi z y => ?_) (fun σ H' z => ?_)⟩
      · obtain ⟨rfl, hx⟩ := y
        obtain ⟨yk, my, rfl, a, b, ek, hb, na, nb⟩ := step _ _ _ _ z hx
        obtain ⟨z1, rfl, e⟩ := z
        exact ⟨_, rfl, yk.2, a, b, rfl, hb, na, nb, true, rfl, _, rfl, e⟩
      · obtain ⟨z1, rfl, e⟩ := z
        exact q _ e
    · refine ⟨_, pss_one (ps_for PassesOwn.never rfl (pi_tup (pv 0)) (pg_name (i := 1) nd rfl (Or.inl rfl))
        (pss_one (ps_if (pt_not (pt_val (pe_call GP hr (by rfl) gP kP bP .nil pass0 (pa_cons (pv 1) pa_nil)))) pss_dead pss_nil))), ?_⟩
      refine ⟨_, rfl, t, rfl, ⟨_, ht _ (Ex.refl _)⟩, for_it (walk_tup (xs := refs ks)) (fun i σ H' => ∃ z, σ = [some (.ref t), z] ∧ Ex H H') ⟨none, rfl, Ex.refl _⟩ (fun i σ H' _ ⟨_, _, e⟩ => ht _ e) (fun i x σ H' H2 hi z y => ?_) (fun σ H' z => ?_)⟩
      · obtain ⟨rfl, hx⟩ := y
        obtain ⟨yk, my, rfl, a, b, ek, hb, na, nb⟩ := step _ _ _ _ z hx
        obtain ⟨z1, rfl, e⟩ := z
        exact ⟨_, rfl, yk.2, a, b, rfl, hb, na, nb, true, rfl, _, rfl, e⟩
      · obtain ⟨z1, rfl, e⟩ := z
        exact q _ e
theorem ok_oredA (F : Fun K "reduced" "Order.reduced" (ometh 13) f fd) (SC : OrdC K C) (gO : mg "Order" = some (.ref C)) (GR : FnOk P w K mg base CX0 1 fR fdR ["value"] (spRow K)) (bR : Binds K fdR ["value"] []) (gR : mg "is_row" = some (.ref fR)) (kR : PySem.W.keepIn K (.ref fR) = true)
    (GK : FnOk P w K mg base CX0 3 fK fdK ["values"] (spChkA K)) (bK : Binds K fdK ["values"] []) (gK : mg "check_pairs" = some (.ref fK)) (kK : PySem.W.keepIn K (.ref fK) = true)
    (r : ClX.CRead K C (.type "type")) (c : ClX.CMet K C (.type "type") "of" pOf fOf) (GO2 : FnOk P w K mg base (L2.CX P w) 6 fOf fdOf ["cls", "pairs"] (spOOf K C CO CT)) (bOf : Binds K fdOf ["cls", "pairs"] []) : FnOk P w K mg base CX0 7 f fd ["self", "pairs"] (spORedA K C) := by
  have nd := scORed.nd
  refine F.ok scORed (fun vs H Q E h => ?_) (fun cdv A outer s H vs Q E hr h => ?_)
  · obtain ⟨a, l, R, kl, rfl, _⟩ := h
    rfl
  · obtain ⟨a, l, R, kl, rfl, oa, rR, hl, lie, fine, few, q⟩ := h
    have gR36 := rR.few
    rcases hl with hl | hl
    · refine ⟨_, pss_cons (ps_if (pt_not (pt_val (pe_call GR (hr.mono (by decide)) (by rfl) gR kR bR .nil pass0 (pa_cons (pv 1) pa_nil)))) pss_dead pss_nil)
        (pss_cons (ps_expr (pe_call GK (hr.mono (by decide)) (by rfl) gK kK bK .nil pass0 (pa_cons (pv 1) pa_nil)))
        (pss_one (ps_ret (ClX.pe_cmeth (E := E0) (pe_glob (v := .ref C) (by rfl) gO rfl) r c (FnOk.toR GO2 bOf) hr passL (pa_cons (pe_lc (own := [("pair", 2)]) (g := gName 2) (tt := tTest (tOp (rInD K) (tVar 2) (tVar 1))) (te := tVar 2) rfl nd (pi_tup (pe_fld (pv 0) rfl)) (blkOk_by (N := NRe) (sc := defScope (ometh 13)) (by decide +kernel))
          (fun _ _ _ _ _ => by exact pg_name (i := 2) nd rfl (Or.inl rfl)) (fun _ _ _ _ _ => by exact pts_one (pt_cmpR (op_inD (hu65 hr)) (pv 2) (pv 1) (by rfl))) (fun _ _ _ _ _ => by exact pv 2)) pa_nil))))), ?_⟩
      refine ⟨_, rfl, l, refs kl, rfl, .inl (SqL.of hl), fun H1 e1 => ⟨true, rfl, ?_⟩⟩
      have e1 : Ex H H1 := e1
      refine ⟨_, rfl, l, kl, rfl, .inl (e1 _ _ hl), lie.ex e1, fun y hy => (fine y.1 (List.mem_map_of_mem hy)).pairK, fun H2 e2 => ?_⟩
      have e2 := e1.trans e2
      obtain ⟨dx, p, ks, h1, h2, h3, h4⟩ := oa.mono e2
      have tst : ∀ y ∈ ks, EvP.Gives (tOp (rInD K) (tVar 2) (tVar 1)) [some (.ref a), some (.ref l), some (.ref y.2)] H2 (is (.bl (hasK (kl.map Prod.fst) y.1))) := fun y hy H3 e3 Q3 q3 => by
        have gy := rR.fine y.1 (by rw [← h4]; exact List.mem_map_of_mem hy)
        refine ⟨_, rfl, _, rfl, keyD y.1, (kl.map Prod.fst).map keyD, .tup (SqT.of (e3 _ _ (h3 y hy))) (dp_key y.1), .lst (SqL.of (e3 _ _ (e2 _ _ hl))) (dp_refs ((lie.ex e2).ex e3)), shaped_key gy, shaped_keysL fine, ?_⟩
        rw [any_key fine gy]
        exact q3 _ _ (Ex.refl _) rfl
      refine of_list (K := K) (C := C) (CO := CO) (CT := CT) (σ := [some (.ref a), some (.ref l), none]) (R := andK R (kl.map Prod.fst)) (compK (wi := iTup K (tFld K (tVar 0) "pairs")) (i := 2) (vs := [2]) (σ := [some (.ref a), some (.ref l), none]) (hasK (kl.map Prod.fst)) (walks_fz (g_fld (i := 0) rfl h1 SC.cl SC.nP rfl (⟨p, rfl, h2⟩ : (fzV (refs ks)).R (.ref p) H2))) (by rw [← List.length_map (f := Prod.fst), h4]; omega) (fun _ => rfl) (fun _ => rfl) (fun y hy => t_test (tst y hy))) (fun y hy => h3 y (List.mem_filter.mp hy).1) (by rw [filter_fst (hasK (kl.map Prod.fst)), h4]; rfl) (rR.filter _).fine (by have := (rR.filter (hasK (kl.map Prod.fst))).few; exact Nat.lt_of_le_of_lt this (by decide)) (outs_ok (rR.filter _) fun c H' e hc => q c H' (e2.trans e) hc)
    · refine ⟨_, pss_cons (ps_if (pt_not (pt_val (pe_call GR (hr.mono (by decide)) (by rfl) gR kR bR .nil pass0 (pa_cons (pv 1) pa_nil)))) pss_dead pss_nil)
        (pss_cons (ps_expr (pe_call GK (hr.mono (by decide)) (by rfl) gK kK bK .nil pass0 (pa_cons (pv 1) pa_nil)))
        (pss_one (ps_ret (ClX.pe_cmeth (E := E0) (pe_glob (v := .ref C) (by rfl) gO rfl) r c (FnOk.toR GO2 bOf) hr passL (pa_cons (pe_lc (own := [("pair", 2)]) (g := gName 2) (tt := tTest (tOp (rInT K) (tVar 2) (tVar 1))) (te := tVar 2) rfl nd (pi_tup (pe_fld (pv 0) rfl)) (blkOk_by (N := NRe) (sc := defScope (ometh 13)) (by decide +kernel))
          (fun _ _ _ _ _ => by exact pg_name (i := 2) nd rfl (Or.inl rfl)) (fun _ _ _ _ _ => by exact pts_one (pt_cmpR (op_inT (hu65 hr)) (pv 2) (pv 1) (by rfl))) (fun _ _ _ _ _ => by exact pv 2)) pa_nil))))), ?_⟩
      refine ⟨_, rfl, l, refs kl, rfl, .inr (hl _ (Ex.refl _)), fun H1 e1 => ⟨true, rfl, ?_⟩⟩
      have e1 : Ex H H1 := e1
      refine ⟨_, rfl, l, kl, rfl, .inr (hl.ex e1), lie.ex e1, fun y hy => (fine y.1 (List.mem_map_of_mem hy)).pairK, fun H2 e2 => ?_⟩
      have e2 := e1.trans e2
      obtain ⟨dx, p, ks, h1, h2, h3, h4⟩ := oa.mono e2
      have tst : ∀ y ∈ ks, EvP.Gives (tOp (rInT K) (tVar 2) (tVar 1)) [some (.ref a), some (.ref l), some (.ref y.2)] H2 (is (.bl (hasK (kl.map Prod.fst) y.1))) := fun y hy H3 e3 Q3 q3 => by
        have gy := rR.fine y.1 (by rw [← h4]; exact List.mem_map_of_mem hy)
        refine ⟨_, rfl, _, rfl, keyD y.1, (kl.map Prod.fst).map keyD, .tup (SqT.of (e3 _ _ (h3 y hy))) (dp_key y.1), .tup (hl _ (e2.trans e3)) (dp_refs ((lie.ex e2).ex e3)), shaped_key gy, shaped_tup fine, ?_⟩
        rw [any_key fine gy]
        exact q3 _ _ (Ex.refl _) rfl
      refine of_list (K := K) (C := C) (CO := CO) (CT := CT) (σ := [some (.ref a), some (.ref l), none]) (R := andK R (kl.map Prod.fst)) (compK (wi := iTup K (tFld K (tVar 0) "pairs")) (i := 2) (vs := [2]) (σ := [some (.ref a), some (.ref l), none]) (hasK (kl.map Prod.fst)) (walks_fz (g_fld (i := 0) rfl h1 SC.cl SC.nP rfl (⟨p, rfl, h2⟩ : (fzV (refs ks)).R (.ref p) H2))) (by rw [← List.length_map (f := Prod.fst), h4]; omega) (fun _ => rfl) (fun _ => rfl) (fun y hy => t_test (tst y hy))) (fun y hy => h3 y (List.mem_filter.mp hy).1) (by rw [filter_fst (hasK (kl.map Prod.fst)), h4]; rfl) (rR.filter _).fine (by have := (rR.filter (hasK (kl.map Prod.fst))).few; exact Nat.lt_of_le_of_lt this (by decide)) (outs_ok (rR.filter _) fun c H' e hc => q c H' (e2.trans e) hc)
end
end Od

set_option Elab.async false
set_option linter.all false
set_option maxRecDepth 100000
set_option maxHeartbeats 4000000
/-! _law_places_right: words. -/
namespace Od
open PySem PySem.NumText PySem.Spec PyProof.Rows L2 EvP Cm Fk DtE Tb Fi KSet Wd
open K19 (Pen But spPick spDraw spPen)
open Dg hiding numT
def kwM {α : Type} : List α → List α → List α
  | [a], [k, b] => [a, b, k]
  | _, _ => []
/-- the methods that the law calls by position and by name -/
structure MethQ (P : Program) (w : World) (K : PySem.W.Frag) (mg : Str → Option Value) (base : Heap) (C : Addr) where
  fP : Addr
  dP : FuncData
  mP : Meth K C "place" fP
  place : FnOk P w K mg base CX0 1 fP dP ["self", "pair"] (spOPlace C)
  bP : Binds K dP ["self", "pair"] []
  kP : KBinds K dP ["self", "pair"] ["pair"] kwP kwP
  fM : Addr
  dM : FuncData
  mM : Meth K C "moved" fM
  moved : FnOk P w K mg base CX0 7 fM dM ["self", "pair", "k"] (spOMoved C)
  bM : Binds K dM ["self", "pair", "k"] []
  kM : KBinds K dM ["self", "pair", "k"] ["k", "pair"] kwM kwM
  fR : Addr
  dR : FuncData
  mR : Meth K C "reduced" fR
  reduced : FnOk P w K mg base CX0 7 fR dR ["self", "pairs"] (spORedA K C)
  bR : Binds K dR ["self", "pairs"] []
  kR : KBinds K dR ["self", "pairs"] ["pairs"] kwP kwP
theorem no_meth {C a : Addr} {H : Hp} {R : List (List Key)} {m : Str} (h : OrdAt C H a R) (n : m ≠ "pairs") : ∃ dx fs, H a = some (.ins C dx fs) ∧ fs.lookup m = none := by
  obtain ⟨dx, p, ks, h1, _⟩ := h
  refine ⟨dx, _, h1, ?_⟩
  show (match m == ("pairs" : Str) with | true => _ | false => _) = _
  rw [beq_eq_false_iff_ne.mpr n]
  rfl
/-- a tuple of just these pairs -/
def tupKL (K : PySem.W.Frag) (R : List (List Key)) : PR := ⟨fun v H => ∃ (a : Addr) (ks : List (List Key × Addr)), v = .ref a ∧ TupS K H a (refs ks) ∧ Lie H ks ∧ ks.map Prod.fst = R, fun _ _ _ e ⟨a, ks, h1, h2, h3, h4⟩ => ⟨a, ks, h1, h2.ex e, h3.ex e, h4⟩⟩
section
variable {K : PySem.W.Frag} {C CO CT : Addr} {σ : L2.St} {H : Hp} {ta tb tc te : TE} {R S : List (List Key)} {k : List Key} {j : Nat}
theorem g_place (h : EvP.Gives ta σ H (ordP C R)) (g : EvP.Gives tb σ H (isK k)) (r : RowO R) (hj : R[j]? = some k) : EvP.Gives (tMeth C "place" (spOPlace C) [] E0 ta (tCons tb tNil)) σ H (is (.int (j : Nat))) := fun H1 e Q q =>
  h H1 e _ fun v H2 e2 ⟨a, ev, oa⟩ => by
    subst ev
    obtain ⟨dx, fs, h1, h2⟩ := no_meth (m := "place") oa (by decide +kernel)
    refine ⟨a, dx, fs, rfl, h1, h2, g H2 (e.trans e2) _ fun u H3 e3 ⟨b, eu, hb⟩ => ?_⟩
    subst eu
    exact ⟨a, b, R, k, j, rfl, oa.mono e3, r, hb, hj, q _ _ (e2.trans e3) rfl⟩
theorem g_placeK (h : EvP.Gives ta σ H (ordP C R)) (g : EvP.Gives tb σ H (isK k)) (r : RowO R) (hj : R[j]? = some k) : EvP.Gives (Mkw.tMethK C "place" (spOPlace C) kwP E0 ta (tCons tb tNil)) σ H (is (.int (j : Nat))) := fun H1 e Q q =>
  h H1 e _ fun v H2 e2 ⟨a, ev, oa⟩ => by
    subst ev
    obtain ⟨dx, fs, h1, h2⟩ := no_meth (m := "place") oa (by decide +kernel)
    refine ⟨a, dx, fs, rfl, h1, h2, g H2 (e.trans e2) _ fun u H3 e3 ⟨b, eu, hb⟩ => ?_⟩
    subst eu
    exact ⟨a, b, R, k, j, rfl, oa.mono e3, r, hb, hj, q _ _ (e2.trans e3) rfl⟩
theorem g_moved (h : EvP.Gives ta σ H (ordP C R)) (g : EvP.Gives tb σ H (isK k)) (gj : EvP.Gives tc σ H (is (.int (j : Nat)))) (r : RowO R) (hk : k ∈ R) (hj : j < R.length) : EvP.Gives (tMeth C "moved" (spOMoved C) [] E0 ta (tCons tb (tCons tc tNil))) σ H (ordP C (movK R k j)) := fun H1 e Q q =>
  h H1 e _ fun v H2 e2 ⟨a, ev, oa⟩ => by
    subst ev
    obtain ⟨dx, fs, h1, h2⟩ := no_meth (m := "moved") oa (by decide +kernel)
    refine ⟨a, dx, fs, rfl, h1, h2, g H2 (e.trans e2) _ fun u H3 e3 ⟨b, eu, hb⟩ => gj H3 ((e.trans e2).trans e3) _ fun u2 H4 e4 eu2 => ?_⟩
    subst eu
    cases (show u2 = _ from eu2)
    exact ⟨a, b, R, k, j, rfl, (oa.mono e3).mono e4, r, e4 _ _ hb, hk, hj, fun c H' e' hc => q _ _ (((e2.trans e3).trans e4).trans e') ⟨c, rfl, hc⟩⟩
theorem g_movedK (h : EvP.Gives ta σ H (ordP C R)) (g : EvP.Gives tb σ H (isK k)) (gj : EvP.Gives tc σ H (is (.int (j : Nat)))) (r : RowO R) (hk : k ∈ R) (hj : j < R.length) : EvP.Gives (Mkw.tMethK C "moved" (spOMoved C) kwM E0 ta (tCons tc (tCons tb tNil))) σ H (ordP C (movK R k j)) := fun H1 e Q q =>
  h H1 e _ fun v H2 e2 ⟨a, ev, oa⟩ => by
    subst ev
    obtain ⟨dx, fs, h1, h2⟩ := no_meth (m := "moved") oa (by decide +kernel)
    refine ⟨a, dx, fs, rfl, h1, h2, gj H2 (e.trans e2) _ fun u2 H3 e3 eu2 => g H3 ((e.trans e2).trans e3) _ fun u H4 e4 ⟨b, eu, hb⟩ => ?_⟩
    subst eu
    cases (show u2 = _ from eu2)
    exact ⟨a, b, R, k, j, rfl, (oa.mono e3).mono e4, r, hb, hk, hj, fun c H' e' hc => q _ _ (((e2.trans e3).trans e4).trans e') ⟨c, rfl, hc⟩⟩
theorem g_red (h : EvP.Gives ta σ H (ordP C R)) (g : EvP.Gives tb σ H (keysL S)) (r : RowO R) (f : Fine S) (few : S.length ≤ 100) : EvP.Gives (tMeth C "reduced" (spORedA K C) [] E0 ta (tCons tb tNil)) σ H (ordP C (andK R S)) := fun H1 e Q q =>
  h H1 e _ fun v H2 e2 ⟨a, ev, oa⟩ => by
    subst ev
    obtain ⟨dx, fs, h1, h2⟩ := no_meth (m := "reduced") oa (by decide +kernel)
    refine ⟨a, dx, fs, rfl, h1, h2, g H2 (e.trans e2) _ fun u H3 e3 ⟨b, kl, eu, hb, lb, eb⟩ => ?_⟩
    subst eu eb
    exact ⟨a, b, R, kl, rfl, oa.mono e3, r, .inl hb, lb, f, by rw [List.length_map] at few; exact few, fun c H' e' hc => q _ _ ((e2.trans e3).trans e') ⟨c, rfl, hc⟩⟩
theorem g_redK (h : EvP.Gives ta σ H (ordP C R)) (g : EvP.Gives tb σ H (tupKL K S)) (r : RowO R) (f : Fine S) (few : S.length ≤ 100) : EvP.Gives (Mkw.tMethK C "reduced" (spORedA K C) kwP E0 ta (tCons tb tNil)) σ H (ordP C (andK R S)) := fun H1 e Q q =>
  h H1 e _ fun v H2 e2 ⟨a, ev, oa⟩ => by
    subst ev
    obtain ⟨dx, fs, h1, h2⟩ := no_meth (m := "reduced") oa (by decide +kernel)
    refine ⟨a, dx, fs, rfl, h1, h2, g H2 (e.trans e2) _ fun u H3 e3 ⟨b, kl, eu, hb, lb, eb⟩ => ?_⟩
    subst eu eb
    exact ⟨a, b, R, kl, rfl, oa.mono e3, r, .inr hb, lb, f, by rw [List.length_map] at few; exact few, fun c H' e' hc => q _ _ ((e2.trans e3).trans e') ⟨c, rfl, hc⟩⟩
/-- tuple(list) -/
theorem g_tupL (h : EvP.Gives te σ H (keysL R)) : EvP.Gives (tCB (fun xs H Q => ∃ p ys, xs = [V.ref p] ∧ ((SqL K H p ys ∧ ∀ l, H l = none → Q (.ref l) (upd H l (.tup ys))) ∨ (SqT K H p ys ∧ Q (.ref p) H))) (tCons te tNil)) σ H (tupKL K R) := fun H1 e Q q =>
  h H1 e _ fun v H2 e2 ⟨a, ks, ev, ha, la, ea⟩ => by
    subst ev
    exact ⟨a, refs ks, rfl, .inl ⟨SqL.of ha, fun l hl => q _ _ (e2.trans (Ex.new hl)) ⟨l, ks, rfl, TupS.of upd_same, la.ex (Ex.new hl), ea⟩⟩⟩
/-- row[j] -/
theorem g_at {i m : Nat} {l : Addr} {ks : List (List Key × Addr)} (hi : σ[i]? = some (some (.ref l))) (hm : σ[m]? = some (some (.int (j : Nat)))) (hl : H l = some (.lst (refs ks))) (lie : Lie H ks) (hj : (ks.map Prod.fst)[j]? = some k) : EvP.Gives (tOp (rIxL K) (tVar i) (tVar m)) σ H (isK k) := fun H1 e Q q => by
  rw [List.getElem?_map] at hj
  obtain ⟨y, hy, rfl⟩ := Option.map_eq_some_iff.mp hj
  exact ⟨_, hi, _, hm, l, refs ks, (j : Nat), .ref y.2, rfl, rfl, SqL.of (e _ _ hl), atI_nat (by unfold refs; rw [List.getElem?_map, hy]; rfl), q _ _ (Ex.refl _) ⟨y.2, rfl, e _ _ (lie y (List.mem_of_getElem? hy))⟩⟩
theorem g_neI {m n : Int} (h : EvP.Gives ta σ H (is (.int m))) (g : EvP.Gives tb σ H (is (.int n))) : EvP.Gives (tOp rNe ta tb) σ H (is (.bl (!decide (V.int m = V.int n)))) :=
  g_op h g fun a b H1 e ex ey Q q => by
    rw [show a = _ from ex, show b = _ from ey]
    exact ⟨rfl, q _ _ (Ex.refl _) rfl⟩
theorem g_reprI {n : Nat} (hn : n ≤ 200) (h : EvP.Gives te σ H (is (.int (n : Nat)))) : EvP.Gives (tCB rReprB (tCons te tNil)) σ H (is (.str (toString ((n : Nat) : Int)))) := fun H1 e Q q =>
  h H1 e _ fun v H2 e2 ev => by
    cases (show v = _ from ev)
    refine .inr ⟨(n : Nat), rfl, Nat.lt_of_lt_of_le (PySem.Flt.log2_lt_of (k := 100) (by decide) (by
      have : (200 : Nat) < 2 ^ 100 := by decide
      omega)) (by decide), q _ _ e2 rfl⟩
theorem refs_take (ks : List (List Key × Addr)) (m : Nat) : (refs ks).take m = refs (ks.take m) := by
  unfold refs
  rw [List.map_take]
theorem refs_drop (ks : List (List Key × Addr)) (m : Nat) : (refs ks).drop m = refs (ks.drop m) := by
  unfold refs
  rw [List.map_drop]
/-- row[:m] -/
theorem g_pre {m : Nat} (h : EvP.Gives te σ H (keysL R)) (g : EvP.Gives tc σ H (is (.int (m : Nat)))) : EvP.Gives (tSl (rSlL K) te tNoPart (tPart tc)) σ H (keysL (R.take m)) := fun H1 e Q q =>
  h H1 e _ fun v H2 e2 ⟨a, ks, ev, ha, lie, ek⟩ => g H2 (e.trans e2) _ fun u H3 e3 eu => by
    cases (show u = _ from eu)
    exact ⟨_, rfl, a, _, ev, SqL.of (e3 _ _ ha), fun p hp => q _ _ ((e2.trans e3).trans (Ex.new hp)) ⟨p, ks.take m, rfl, by rw [upd_same, cutV_pre, refs_take], fun y hy => Ex.new hp _ _ (e3 _ _ (lie y (List.mem_of_mem_take hy))), by rw [List.map_take, ek]⟩⟩
/-- row[m:] -/
theorem g_suf {m : Nat} (h : EvP.Gives te σ H (keysL R)) (g : EvP.Gives tc σ H (is (.int (m : Nat)))) (hm : m ≤ R.length) : EvP.Gives (tSl (rSlL K) te (tPart tc) tNoPart) σ H (keysL (R.drop m)) := fun H1 e Q q =>
  h H1 e _ fun v H2 e2 ⟨a, ks, ev, ha, lie, ek⟩ => g H2 (e.trans e2) _ fun u H3 e3 eu => by
    cases (show u = _ from eu)
    exact ⟨_, rfl, a, _, ev, SqL.of (e3 _ _ ha), fun p hp => q _ _ ((e2.trans e3).trans (Ex.new hp)) ⟨p, ks.drop m, rfl, by rw [upd_same, cut_from (by unfold refs; rw [List.length_map, ← List.length_map (f := Prod.fst), ek]; exact hm), refs_drop], fun y hy => Ex.new hp _ _ (e3 _ _ (lie y (List.mem_of_mem_drop hy))), by rw [List.map_drop, ek]⟩⟩
/-- [pair] -/
theorem g_one (h : EvP.Gives te σ H (isK k)) : EvP.Gives (tLst (tCons te tNil)) σ H (keysL [k]) := fun H1 e Q q =>
  h H1 e _ fun v H2 e2 ⟨a, ev, ha⟩ => by
    subst ev
    exact ⟨by show 1 ≤ sizeLine; decide, fun p hp => q _ _ (e2.trans (Ex.new hp)) ⟨p, [(k, a)], rfl, upd_same, (fun y hy => by cases List.mem_singleton.mp hy; exact Ex.new hp _ _ ha), rfl⟩⟩
end
theorem refs_pen {ks : List (List Key × Addr)} {q : Addr} {s g : Int} : HO.lst (refs ks) ≠ .lst [.ref q, .int s, .int g] := fun z => by
  have e : refs ks = [.ref q, .int s, .int g] := HO.lst.inj z
  have h := congrArg (fun l : List V => l[1]?) e
  unfold refs at h
  simp only [List.getElem?_map] at h
  cases hk : ks[1]? with
  | none => rw [hk] at h; cases h
  | some y => rw [hk] at h; cases h
theorem list_pen {H : Hp} {p q l : Addr} {ns : List Int} {s g : Int} {ks : List (List Key × Addr)} (hP : Pen H p q ns s g) (hl : H l = some (.lst (refs ks))) : l ≠ p := ne_of hl hP.p refs_pen
theorem ord_but {C a p q : Addr} {H H' : Hp} {ns : List Int} {s g : Int} {R : List (List Key)} (h : OrdAt C H a R) (hP : Pen H p q ns s g) (b : But p H H') : OrdAt C H' a R := by
  obtain ⟨dx, t, ks, h1, ⟨ob, c1, c2, h2⟩, h3, h4⟩ := h
  exact ⟨dx, t, ks, b _ _ h1 (ne_of h1 hP.p fun z => nomatch z), ⟨ob, c1, c2, b _ _ h2 (ne_of h2 hP.p fun z => nomatch z)⟩, lie_but h3 hP b, h4⟩
end Od

set_option Elab.async false
set_option linter.all false
set_option maxRecDepth 100000
set_option maxHeartbeats 4000000
/-! _law_places_right. -/
namespace Od
open PySem PySem.NumText PySem.Spec PyProof.Rows L2 EvP Cm Fk DtE Tb Fi KSet Wd
open K19 (Pen But spPick spDraw spPen)
open Dg hiding numT
abbrev sPlaces : Stmt := top 62
abbrev NPl : List Str := ["pen", "row", "rest", "one", "k", "pair", "left", "given", "other"]
theorem scPlaces : FnScope NPl ["pen", "row", "rest"] (defScope sPlaces) := ⟨rfl, rfl, rfl, by decide +kernel, rfl, by decide +kernel, by decide +kernel⟩
def spPlaces : Sp := fun vs H Q _ => ∃ (p q : Addr) (ns : List Int) (s g : Int) (l1 l2 : Addr) (ks ls : List (List Key × Addr)), vs = [.ref p, .ref l1, .ref l2] ∧ Pen H p q ns s g ∧ ns.length ≤ 63 ∧ 0 ≤ s ∧ s < 80000 ∧ H l1 = some (.lst (refs ks)) ∧ H l2 = some (.lst (refs ls)) ∧ Lie H ks ∧ Lie H ls ∧ RowO (ks.map Prod.fst) ∧ RowO (ls.map Prod.fst) ∧
  ∀ (s' g' : Int) (H' : Hp), s ≤ s' → s' ≤ s + 100 → Pen H' p q ns s' g' → But p H H' → Q (.bl true) H'
section
theorem st_ifInv {tt : TT} {t u : TS} {D : Ends} {σ : L2.St} {H : Hp} {b : Bool} (Inv : L2.St → Hp → Prop) (h : Tst tt σ H b) (tail : ∀ σ' H', Inv σ' H' → u D σ' H') (hT : b = true → ∀ H1, Ex H H1 → (∀ σ' H', Inv σ' H' → u D σ' H') → t { D with nx := u D } σ H1) (hF : b = false → ∀ H1, Ex H H1 → Inv σ H1) : tSeq (tIfS tt t tNext) u D σ H := by
  cases b with
  | true => exact st_ifT h fun H1 e => hT rfl H1 e tail
  | false => exact st_ifF h fun H1 e => tail _ _ (hF rfl H1 e)
end
section
variable {P : Program} {w : World} {K : PySem.W.Frag} {mg : Str → Option Value} {base : Heap} {C CO CT f : Addr} {fd : FuncData}
theorem ok_places (F : Fun K "_law_places_right" "_law_places_right" sPlaces f fd) (T : Fk.Blt mg) (hL : mg "list" = none) (hTu : mg "tuple" = none) (hR : mg "range" = none) (hRp : mg "repr" = none) (M : OrdQ P w K mg base C CO CT) (W : MethQ P w K mg base C) (DD : CalD P w K mg base 1 "_law_draw" ["pen", "many"] spDraw) (DK : CalD P w K mg base 2 "_law_pick" ["pen", "some"] spPick) (DM : CalD P w K mg base 3 "_law_mixed" ["pen", "some"] (spMixed K)) : FnOk P w K mg base CX0 9 f fd ["pen", "row", "rest"] spPlaces := by
  have nd := scPlaces.nd
  refine F.ok scPlaces (fun vs H Q E h => ?_) (fun cdv A outer s0 H vs Q E hr h => ?_)
  · obtain ⟨p, q, ns, s, g, l1, l2, ks, ls, rfl, _⟩ := h
    rfl
  · obtain ⟨p, q, ns, s, g, l1, l2, ks, ls, rfl, hP, hns, s0, s8, h1, h2, lie1, lie2, rR, rS, k⟩ := h
    refine ⟨_, pss_cons (ps_set (i := 3) nd rfl (Or.inl rfl) (ClX.pe_cmeth (E := E0) (pe_glob (v := .ref C) (by rfl) M.gO rfl) M.r M.cO (FnOk.toR M.of M.ofB) (hr.mono (by decide)) passL (pa_cons (pv 1) pa_nil)))
      (pss_cons (ps_for PassesOwn.never rfl (pi_range1 rfl hR (pa_cons (pe_callB call_len_seq (by rfl) T.len PySem.boot_len (pa_cons (pv 1) pa_nil)) pa_nil)) (pg_name (i := 4) nd rfl (Or.inl rfl))
        (pss_one (ps_if (PW.pt (pw_or (pt_cmpR op_ne (pe_callB call_reprB (by rfl) hRp (by decide +kernel) (pa_cons (pe_meth (pv 3) M.S.cl W.mP W.place (hr.mono (by decide)) W.bP .nil pass0 (pa_cons (pe_ix ix_list (pv 1) (pv 4) (fun _ _ => rfl)) pa_nil)) pa_nil)) (pe_callB call_reprB (by rfl) hRp (by decide +kernel) (pa_cons (pv 4) pa_nil)) (nomark _))
          (pw_or (pt_cmpR op_ne (Mkw.pe_methK0 (pv 3) M.S.cl W.mP W.place (hr.mono (by decide)) W.kP pass0 (pk_cons (pe_ix ix_list (pv 1) (pv 4) (fun _ _ => rfl)) pk_nil)) (pv 4) (nomark _))
          (pw_or1 (pt_cmpR (Own.ne_own M.eq M.ne M.mro (hr.mono (by decide))) (pe_meth (pv 3) M.S.cl W.mM W.moved (hr.mono (by decide)) W.bM .nil pass0 (pa_cons (pe_ix ix_list (pv 1) (pv 4) (fun _ _ => rfl)) (pa_cons (pv 4) pa_nil))) (pv 3) (nomark _)))))) (pss_one (ps_ret pe_bl)) pss_nil)))
      (pss_cons (ps_if (pt_cmpR (op_neD hr.units) (pv 1) (pe_lst pa_nil) (nomark _))
        (pss_cons (ps_asg (pe_tup (pa_cons (pe_call DK.ok (hr.mono (by decide)) (by rfl) DK.g DK.kp DK.b .nil pass0 (pa_cons (pv 0) (pa_cons (pv 1) pa_nil))) (pa_cons (pe_call DD.ok (hr.mono (by decide)) (by rfl) DD.g DD.kp DD.b .nil pass0 (pa_cons (pv 0) (pa_cons (pe_callB call_len_seq (by rfl) T.len PySem.boot_len (pa_cons (pv 1) pa_nil)) pa_nil))) pa_nil))) (pg_tup rfl (pgs_cons (pg_name (i := 5) nd rfl (Or.inr rfl)) (pgs_cons (pg_name (i := 4) nd rfl (Or.inl rfl)) pgs_nil))))
        (pss_cons (ps_setLc (i := 6) (own := [("other", 8)]) (g := gName 8) (tt := tTest (tOp (rNeD K) (tVar 8) (tVar 5))) (te := tVar 8) rfl nd rfl rfl (by rfl) (pi_list (pv 1)) (blkOk_by (N := NPl) (sc := defScope sPlaces) (by decide +kernel))
          (fun _ _ _ _ _ => by exact pg_name (i := 8) nd rfl (Or.inl rfl)) (fun _ _ _ _ _ => by exact pts_one (pt_cmpR (op_neD hr.units) (pv 8) (pv 5) (nomark _))) (fun _ _ _ _ _ => by exact pv 8))
        (pss_one (ps_if (PW.pt (pw_or (pt_cmpR (op_neD hr.units) (pe_callTy (T := "list") (Own.call_listIt M.itA M.itN M.it M.itB M.len (hr.mono (by decide)) (hr.mono (by decide)) rfl) (by rfl) hL (by decide +kernel) (pa_cons (pe_meth (pv 3) M.S.cl W.mM W.moved (hr.mono (by decide)) W.bM .nil pass0 (pa_cons (pv 5) (pa_cons (pv 4) pa_nil))) pa_nil))
            (pe_op op_cat (pe_op op_cat (pe_slice sl_list (pv 6) po_none (po_some (pv 4))) (pe_lst (pa_cons (pv 5) pa_nil))) (pe_slice sl_list (pv 6) (po_some (pv 4)) po_none)) (nomark _))
          (pw_or1 (pt_cmpR op_ne (pe_meth (Mkw.pe_methK0 (pv 3) M.S.cl W.mM W.moved (hr.mono (by decide)) W.kM pass0 (pk_cons (pv 4) (pk_cons (pv 5) pk_nil))) M.S.cl W.mP W.place (hr.mono (by decide)) W.bP .nil pass0 (pa_cons (pv 5) pa_nil)) (pv 4) (nomark _))))) (pss_one (ps_ret pe_bl)) pss_nil)))) pss_nil)
      (pss_cons (ps_set (i := 7) nd rfl (Or.inr rfl) (pe_call DM.ok (hr.mono (by decide)) (by rfl) DM.g DM.kp DM.b .nil pass0 (pa_cons (pv 0) (pa_cons (pe_op op_cat (pe_op op_cat (pv 2) (pe_slice sl_list (pv 1) po_none (po_some pe_int))) (pe_slice sl_list (pv 1) po_none (po_some pe_int))) pa_nil))))
      (pss_cons (ps_if (PW.pt (pw_or (pt_cmpR (op_neD hr.units) (pe_callTy (T := "list") (Own.call_listIt M.itA M.itN M.it M.itB M.len (hr.mono (by decide)) (hr.mono (by decide)) rfl) (by rfl) hL (by decide +kernel) (pa_cons (pe_meth (pv 3) M.S.cl W.mR W.reduced (hr.mono (by decide)) W.bR .nil pass0 (pa_cons (pv 7) pa_nil)) pa_nil))
          (pe_lc (own := [("pair", 5)]) (g := gName 5) (tt := tTest (tOp (rInD K) (tVar 5) (tVar 7))) (te := tVar 5) rfl nd (pi_list (pv 1)) (blkOk_by (N := NPl) (sc := defScope sPlaces) (by decide +kernel)) (fun _ _ _ _ _ => by exact pg_name (i := 5) nd rfl (Or.inl rfl)) (fun _ _ _ _ _ => by exact pts_one (pt_cmpR (op_inD (hu65 hr)) (pv 5) (pv 7) (by rfl))) (fun _ _ _ _ _ => by exact pv 5)) (nomark _))
        (pw_or1 (pt_cmpR (Own.ne_own M.eq M.ne M.mro (hr.mono (by decide))) (Mkw.pe_methK0 (pv 3) M.S.cl W.mR W.reduced (hr.mono (by decide)) W.kR pass0 (pk_cons (pe_callTy (T := "tuple") call_tuple_of (by rfl) hTu (by decide +kernel) (pa_cons (pv 7) pa_nil)) pk_nil)) (pe_meth (pv 3) M.S.cl W.mR W.reduced (hr.mono (by decide)) W.bR .nil pass0 (pa_cons (pv 7) pa_nil)) (nomark _))))) (pss_one (ps_ret pe_bl)) pss_nil)
      (pss_one (ps_ret (pe_and (pe_cmpR (Own.cmp_own (op := .Eq) M.eq (hr.mono (by decide))) (pe_meth (pv 3) M.S.cl W.mR W.reduced (hr.mono (by decide)) W.bR .nil pass0 (pa_cons (pe_lst pa_nil) pa_nil)) (StO.pe_makeR0 (E := E0) M.mkC M.gi (hr.mono (by decide)) (by rfl) M.gO passL) (nomark _))
        (pe_one (pe_cmpR (op_eqD hr.units) (pe_callTy (T := "list") (Own.call_listIt M.itA M.itN M.it M.itB M.len (hr.mono (by decide)) (hr.mono (by decide)) rfl) (by rfl) hL (by decide +kernel) (pa_cons (pv 3) pa_nil)) (pv 1) (nomark _)))))))))), ?_⟩
    have lr : (refs ks).length = ks.length := List.length_map ..
    have lR : (ks.map Prod.fst).length = ks.length := List.length_map ..
    have lS : (ls.map Prod.fst).length = ls.length := List.length_map ..
    have n1 : l1 ≠ p := list_pen hP h1
    have n2 : l2 ≠ p := list_pen hP h2
    generalize hRe : ks.map Prod.fst = R at rR lR
    generalize hSe : ls.map Prod.fst = S at rS lS
    have fewR := rR.few
    have fewS := rS.few
    have gy1 : ∀ y ∈ ks, GoodP y.1 := fun y hy => rR.fine y.1 (by rw [← hRe]; exact List.mem_map_of_mem hy)
    -- one
    refine EvP.st_set (g_ofO (K := K) (C := C) (CO := CO) (CT := CT) (σ := L2.start NPl [.ref p, .ref l1, .ref l2]) (EvP.varP (i := 1) rfl ⟨l1, ks, rfl, h1, lie1, hRe⟩) rR) fun v1 H1 e1 hv1 => ?_
    obtain ⟨a, rfl, oa⟩ := hv1
    have lst_ : ∀ {σ : L2.St} {te : TE} {H' : Hp} {T : List (List Key)}, EvP.Gives te σ H' (ordP C T) → RowO T → EvP.Gives (tCB (Own.rListIt K C (spOIter C) (spOLen C)) (tCons te tNil)) σ H' (keysL T) := fun g r => g_listO g (by have := r.few; omega)
    -- for k in range(len(row))
    refine ⟨_, rfl, l1, refs ks, rfl, .inl (SqL.of (e1 _ _ h1)), ks.length, by rw [lr], by omega, by omega, for_range (lo := 0) (n := ks.length) (fun i σ H' => Ex H1 H' ∧ ∃ o4 : Option V, σ = [some (.ref p), some (.ref l1), some (.ref l2), some (.ref a), o4, none, none, none, none]) ⟨Ex.refl _, none, rfl⟩ (fun i σ H2 hi z => ?_) (fun σ H2 z => ?_)⟩
    · obtain ⟨e2, o4, rfl⟩ := z
      rw [Int.zero_add]
      have hj : R[i]? = some R[i] := List.getElem?_eq_getElem (by omega)
      generalize R[i] = x at hj
      have mx := List.mem_of_getElem? hj
      have e12 := e1.trans e2
      have va : EvP.Gives (tVar 3) [some (.ref p), some (.ref l1), some (.ref l2), some (.ref a), some (.int (i : Nat)), none, none, none, none] H2 (ordP C R) := var_ord rfl (oa.mono e2)
      have vx : EvP.Gives (tOp (rIxL K) (tVar 1) (tVar 4)) [some (.ref p), some (.ref l1), some (.ref l2), some (.ref a), some (.int (i : Nat)), none, none, none, none] H2 (isK x) := g_at (i := 1) (m := 4) rfl rfl (e12 _ _ h1) (lie1.ex e12) (by rw [hRe]; exact hj)
      have vi : EvP.Gives (tVar 4) [some (.ref p), some (.ref l1), some (.ref l2), some (.ref a), some (.int (i : Nat)), none, none, none, none] H2 (is (.int (i : Nat))) := EvP.var (i := 4) rfl
      refine st_ifF1 (σ := [some (.ref p), some (.ref l1), some (.ref l2), some (.ref a), some (.int (i : Nat)), none, none, none, none]) (t_or (t_test ?c1) (t_or (t_test ?c2) (t_test ?c3))) fun H3 e3 => ⟨e2.trans e3, _, rfl⟩
      case c1 => exact not_of (decide_eq_true rfl) (g_neS (g_reprI (by omega) (g_place va vx rR hj)) (g_reprI (by omega) vi))
      case c2 => exact not_of (decide_eq_true rfl) (g_neI (g_placeK va vx rR hj) vi)
      case c3 =>
        have z := g_neO (K := K) (g_moved va vx vi rR mx (by omega)) va (rR.mov mx).fine rR.fine
        rw [movK_self rR.nod hj] at z
        exact not_of (decide_eq_true rfl) z
    obtain ⟨e2, o4, rfl⟩ := z
    have e12 := e1.trans e2
    -- if row != []
    have vr : ∀ {σ : L2.St} {H' : Hp}, But p H H' → σ[1]? = some (some (.ref l1)) → EvP.Gives (tVar 1) σ H' (keysL R) := fun b hi => EvP.varP hi ⟨l1, ks, rfl, b _ _ h1 n1, lie_but lie1 hP b, hRe⟩
    have vs : ∀ {σ : L2.St} {H' : Hp}, But p H H' → σ[2]? = some (some (.ref l2)) → EvP.Gives (tVar 2) σ H' (keysL S) := fun b hi => EvP.varP hi ⟨l2, ls, rfl, b _ _ h2 n2, lie_but lie2 hP b, hSe⟩
    have b2 : But p H H2 := fun b o hb _ => e12 _ _ hb
    have z0 := g_neK (K := K) (vr (σ := [some (.ref p), some (.ref l1), some (.ref l2), some (.ref a), o4, none, none, none, none]) b2 rfl) g_lst0 rR.fine (fun k hk => by cases hk)
    refine st_ifInv (fun σ' H' => ∃ (o4 o5 o6 : Option V) (s' g' : Int), σ' = [some (.ref p), some (.ref l1), some (.ref l2), some (.ref a), o4, o5, o6, none, none] ∧ Pen H' p q ns s' g' ∧ s ≤ s' ∧ s' ≤ s + 2 ∧ But p H H' ∧ OrdAt C H' a R) (t_test z0) (fun σ' H' z => ?tl9) (fun hb H3 e3 kk => ?bd9) (fun hb H3 e3 => ⟨_, _, _, s, g, rfl, pen_ex (pen_ex hP e12) e3, Int.le_refl _, by omega, but_ex b2 e3, (oa.mono e2).mono e3⟩)
    case bd9 =>
      have ne : R ≠ [] := by
        have z : (!decide (R = [])) = true := hb
        intro c
        rw [decide_eq_true c] at z
        cases z
      have pos : 0 < ks.length := by
        rw [← lR]
        exact List.length_pos_iff.mpr ne
      have e13 := e12.trans e3
      have hP3 := pen_ex hP e13
      refine ⟨_, rfl, _, rfl, p, q, ns, s, g, l1, refs ks, rfl, hP3, hns, s0, by omega, e13 _ _ h1, n1, by omega, by omega, fun v s1 g1 H4 hv a0 a1 hP4 bt4 => ?_⟩
      have b4 : But p H H4 := fun b o hb nb => bt4 _ _ (e13 _ _ hb) nb
      obtain ⟨y, hy, rfl⟩ : ∃ y ∈ ks, v = .ref y.2 := by
        unfold refs at hv
        obtain ⟨y, hy, e⟩ := List.mem_map.mp hv
        exact ⟨y, hy, e.symm⟩
      have my : y.1 ∈ R := by rw [← hRe]; exact List.mem_map_of_mem hy
      refine ⟨_, rfl, _, rfl, l1, refs ks, rfl, .inl (SqL.of (b4 _ _ h1 n1)), p, q, ns, s1, g1, _, rfl, hP4, hns, by omega, by omega, by omega, by omega, fun m s2 g2 H5 m0 m1 c0 c1 hP5 bt5 => ?_⟩
      have b5 : But p H H5 := but_trans b4 bt5
      obtain ⟨J, rfl⟩ : ∃ J : Nat, m = J := ⟨m.toNat, by omega⟩
      have hJ : J < ks.length := by omega
      refine ⟨by show 2 ≤ sizeLine; decide, fun t ht => ⟨t, _, rfl, SqT.of upd_same, rfl, _, _, rfl, _, _, rfl, rfl, ?_⟩⟩
      have et := Ex.new (o := .tup [.ref y.2, .int (J : Nat)]) ht
      have b6 := but_ex b5 et
      have hP6 := pen_ex hP5 et
      have o6 : OrdAt C (upd H5 t (.tup [.ref y.2, .int (J : Nat)])) a R := ord_but ((oa.mono e2).mono e3) hP3 (fun b o hb nb => et _ _ (bt5 _ _ (bt4 _ _ hb nb) nb))
      generalize upd H5 t (.tup [.ref y.2, .int (J : Nat)]) = H6 at et b6 hP6 o6 ⊢
      have hk6 : H6 y.2 = some (.tup (y.1.map kV)) := lie_but lie1 hP b6 y hy
      have lie6 := lie_but lie1 hP b6
      have lf := (filter_ne rR.nod my).length_eq
      rw [List.length_cons] at lf
      have fF : Fine (R.filter fun z => !decide (z = y.1)) := (rR.filter _).fine
      -- left
      have gl : EvP.Gives (tLc (iList K (tVar 1)) (gName 8) (tTest (tOp (rNeD K) (tVar 8) (tVar 5))) (tVar 8) [8]) [some (.ref p), some (.ref l1), some (.ref l2), some (.ref a), some (.int (J : Nat)), some (.ref y.2), none, none, none] H6 (keysL (R.filter fun z => !decide (z = y.1))) := by
        have z := g_filt (K := K) (σ := [some (.ref p), some (.ref l1), some (.ref l2), some (.ref a), some (.int (J : Nat)), some (.ref y.2), none, none, none]) (H := H6) (i := 8) (j := 1) (vs := [8]) (l := l1) (ks := ks) (tt := tTest (tOp (rNeD K) (tVar 8) (tVar 5))) (fun z => !decide (z = y.1)) rfl (b6 _ _ h1 n1) lie6 (by omega) (fun _ => rfl) (fun _ => rfl) (fun y' hy' => t_test fun H' e' Q' q' => ?_)
        · rw [hRe] at z
          exact z
        · refine ⟨_, rfl, _, rfl, keyD y'.1, keyD y.1, .tup (SqT.of (e' _ _ (lie6 y' hy'))) (dp_key y'.1), .tup (SqT.of (e' _ _ hk6)) (dp_key y.1), shaped_key (gy1 y' hy'), shaped_key (gy1 y hy), ?_⟩
          rw [eqv_key (gy1 y' hy') (gy1 y hy)]
          exact q' _ _ (Ex.refl _) rfl
      refine EvP.st_set gl fun v7 H7 e7 hv7 => ?_
      obtain ⟨l, fl, rfl, hl, lf7, ef⟩ := hv7
      have vp : EvP.Gives (tVar 5) [some (.ref p), some (.ref l1), some (.ref l2), some (.ref a), some (.int (J : Nat)), some (.ref y.2), some (.ref l), none, none] H7 (isK y.1) := EvP.varP rfl ⟨y.2, rfl, e7 _ _ hk6⟩
      have vk : EvP.Gives (tVar 4) [some (.ref p), some (.ref l1), some (.ref l2), some (.ref a), some (.int (J : Nat)), some (.ref y.2), some (.ref l), none, none] H7 (is (.int (J : Nat))) := EvP.var (i := 4) rfl
      have va : EvP.Gives (tVar 3) [some (.ref p), some (.ref l1), some (.ref l2), some (.ref a), some (.int (J : Nat)), some (.ref y.2), some (.ref l), none, none] H7 (ordP C R) := var_ord rfl (o6.mono e7)
      have vl : EvP.Gives (tVar 6) [some (.ref p), some (.ref l1), some (.ref l2), some (.ref a), some (.int (J : Nat)), some (.ref y.2), some (.ref l), none, none] H7 (keysL (R.filter fun z => !decide (z = y.1))) := EvP.varP rfl ⟨l, fl, rfl, hl, lf7, ef⟩
      have rm := rR.mov (j := J) my
      have hmj : (movK R y.1 J)[J]? = some y.1 := by
        unfold movK
        have lt : ((R.filter fun z => !decide (z = y.1)).take J).length = J := by rw [List.length_take]; omega
        rw [List.getElem?_append_right (by omega), lt, Nat.sub_self]
        rfl
      have cat : ((R.filter fun z => !decide (z = y.1)).take J ++ [y.1]) ++ (R.filter fun z => !decide (z = y.1)).drop J = movK R y.1 J := by
        unfold movK
        rw [List.append_assoc]
        rfl
      refine st_ifF1 (σ := [some (.ref p), some (.ref l1), some (.ref l2), some (.ref a), some (.int (J : Nat)), some (.ref y.2), some (.ref l), none, none]) (t_or (t_test ?d1) (t_test ?d2)) fun H8 e8 => kk _ _ ⟨_, _, _, s2, g2, rfl, pen_ex (pen_ex hP6 e7) e8, by omega, by omega, but_ex (but_ex b6 e7) e8, (o6.mono e7).mono e8⟩
      case d1 =>
        have gg := g_catK (g_catK (g_pre (K := K) vl vk) (g_one vp) (by simp only [List.length_take, List.length_cons, List.length_nil]; omega)) (g_suf (K := K) vl vk (by omega)) (by simp only [List.length_append, List.length_take, List.length_drop, List.length_cons, List.length_nil]; omega)
        rw [cat] at gg
        exact not_of (decide_eq_true rfl) (g_neK (K := K) (lst_ (g_moved va vp vk rR my (by omega)) rm) gg rm.fine rm.fine)
      case d2 => exact not_of (decide_eq_true rfl) (g_neI (g_place (g_movedK va vp vk rR my (by omega)) vp rm hmj) vk)
    case tl9 =>
      obtain ⟨o4, o5, o6, s3, g3, rfl, hP3, a0, a1, b3, oa3⟩ := z
      -- given
      have vR3 : EvP.Gives (tVar 1) [some (.ref p), some (.ref l1), some (.ref l2), some (.ref a), o4, o5, o6, none, none] H' (keysL R) := vr b3 rfl
      have vS3 : EvP.Gives (tVar 2) [some (.ref p), some (.ref l1), some (.ref l2), some (.ref a), o4, o5, o6, none, none] H' (keysL S) := vs b3 rfl
      have gg := g_catK (g_catK vS3 (g_pre (K := K) (m := 2) vR3 EvP.cst) (by simp only [List.length_take]; omega)) (g_pre (K := K) (m := 1) vR3 EvP.cst) (by simp only [List.length_append, List.length_take]; omega)
      have fG : Fine ((S ++ R.take 2) ++ R.take 1) := fun z hz => by
        rcases List.mem_append.mp hz with hz | hz
        · rcases List.mem_append.mp hz with hz | hz
          · exact rS.fine z hz
          · exact rR.fine z (List.mem_of_mem_take hz)
        · exact rR.fine z (List.mem_of_mem_take hz)
      have lG : ((S ++ R.take 2) ++ R.take 1).length ≤ 40 := by
        simp only [List.length_append, List.length_take]
        omega
      generalize hG : (S ++ R.take 2) ++ R.take 1 = G0 at gg fG lG
      refine ⟨_, rfl, gg H' (Ex.refl _) _ fun v4 H4 e4 hv4 => ?_⟩
      obtain ⟨l, gk, rfl, hl, lg, eg⟩ := hv4
      have lgk : gk.length = G0.length := by rw [← eg, List.length_map]
      have hP4 := pen_ex hP3 e4
      refine ⟨p, q, ns, s3, g3, l, gk.map itK, rfl, hP4, hns, by omega, by omega, by rw [vals_keys]; exact hl, list_pen hP4 hl, by rw [List.length_map]; omega, fun x hx => ?_, fun f2 fnd s5 g5 H5 pm nf hf t0 t1 hP5 bt5 => ?_⟩
      · obtain ⟨y, hy, rfl⟩ := List.mem_map.mp hx
        exact ⟨.inr ⟨y.2, y.1, rfl, lg y hy⟩, flat_key (fG y.1 (by rw [← eg]; exact List.mem_map_of_mem hy))⟩
      obtain ⟨fm, pk, rfl⟩ := perm_map itK pm
      rw [vals_keys] at hf
      rw [List.length_map] at t1
      have pf := pk.map Prod.fst
      rw [eg] at pf
      have fM : Fine (fm.map Prod.fst) := fun z hz => fG z (pf.mem_iff.mp hz)
      have lM : (fm.map Prod.fst).length ≤ 40 := by rw [pf.length_eq]; exact lG
      have lieM : Lie H5 fm := lie_but (fun y hy => lg y (pk.mem_iff.mp hy)) hP4 bt5
      generalize hMe : fm.map Prod.fst = Mm at fM lM
      have b5 : But p H H5 := but_trans (but_ex b3 e4) bt5
      have oa5 : OrdAt C H5 a R := ord_but (oa3.mono e4) hP4 bt5
      have lie5 := lie_but lie1 hP b5
      have va : ∀ {H6 : Hp}, Ex H5 H6 → EvP.Gives (tVar 3) [some (.ref p), some (.ref l1), some (.ref l2), some (.ref a), o4, o5, o6, some (.ref f2), none] H6 (ordP C R) := fun e => var_ord rfl (oa5.mono e)
      have vg : ∀ {σ : L2.St} {H6 : Hp}, Ex H5 H6 → σ[7]? = some (some (.ref f2)) → EvP.Gives (tVar 7) σ H6 (keysL Mm) := fun e hi => EvP.varP hi ⟨f2, fm, rfl, e _ _ hf, lieM.ex e, hMe⟩
      have rA : RowO (andK R Mm) := rR.filter _
      dsimp only [gName]
      refine st_ifF (σ := [some (.ref p), some (.ref l1), some (.ref l2), some (.ref a), o4, o5, o6, some (.ref f2), none]) (t_or (t_test ?m1) (t_test ?m2)) fun H6 e6 => ?_
      case m1 =>
        refine not_of (decide_eq_true rfl) (g_neK (K := K) (lst_ (g_red (va (Ex.refl _)) (vg (Ex.refl _) rfl) rR fM (by omega)) rA) ?_ rA.fine rA.fine)
        have z := g_filt (K := K) (σ := [some (.ref p), some (.ref l1), some (.ref l2), some (.ref a), o4, o5, o6, some (.ref f2), none]) (H := H5) (i := 5) (j := 1) (vs := [5]) (l := l1) (ks := ks) (hasK Mm) rfl (b5 _ _ h1 n1) lie5 (by omega) (fun _ => rfl) (fun _ => rfl) (fun y hy => t_test (g_inL (K := K) (i := 5) rfl (lie5 y hy) (gy1 y hy) (vg (Ex.refl _) rfl) fM))
        rw [hRe] at z
        exact z
      case m2 => exact not_of (decide_eq_true rfl) (g_neO (K := K) (g_redK (va (Ex.refl _)) (g_tupL (vg (Ex.refl _) rfl)) rR fM (by omega)) (g_red (va (Ex.refl _)) (vg (Ex.refl _) rfl) rR fM (by omega)) rA.fine rA.fine)
      -- return
      have r0 : andK R [] = [] := by
        unfold andK
        rw [List.filter_eq_nil_iff]
        intro z _ h
        cases h
      have b6 := but_ex b5 e6
      have g1 := g_eqO (K := K) (g_red (K := K) (va e6) (g_lst0 (σ := [some (.ref p), some (.ref l1), some (.ref l2), some (.ref a), o4, o5, o6, some (.ref f2), none]) (H := H6)) rR (fun k hk => by cases hk) (by show 0 ≤ 100; decide)) (g_make0 (CO := CO) (CT := CT)) (rR.filter _).fine row0.fine
      rw [decide_eq_true r0] at g1
      have g2 := g_eqK (K := K) (lst_ (va e6) rR) (vr (σ := [some (.ref p), some (.ref l1), some (.ref l2), some (.ref a), o4, o5, o6, some (.ref f2), none]) b6 rfl) rR.fine rR.fine
      rw [decide_eq_true rfl] at g2
      refine EvP.st_ret (g_and g1 g2) fun v7 H7 e7 ev => ?_
      cases (show v7 = _ from ev)
      exact k s5 g5 H7 (by omega) (by omega) (pen_ex hP5 (e6.trans e7)) (but_ex b6 e7)
end
end Od

set_option Elab.async false
set_option linter.all false
set_option maxRecDepth 100000
set_option maxHeartbeats 4000000
/-! The law. -/
namespace Od
open PySem PySem.NumText PySem.Spec PyProof.Rows L2 EvP Cm Fk DtE Tb Fi KSet Wd
open K19 (Pen But spPick spDraw spPen)
open Dg hiding numT
abbrev sLaw : Stmt := top 63
abbrev NLa : List Str := ["script", "pen", "turn", "row", "rest", "none"]
theorem scLaw : FnScope NLa ["script"] (defScope sLaw) := ⟨rfl, rfl, rfl, by decide +kernel, rfl, by decide +kernel, by decide +kernel⟩
def spLawO (K : PySem.W.Frag) : Sp := fun vs H Q _ => ∃ (a : Addr) (ns : List Int), vs = [.ref a] ∧ SqL K H a (ns.map V.int) ∧ ns.length ≤ 63 ∧ ∀ H', Q (.bl true) H'
section
variable {K : PySem.W.Frag} {C CO CT : Addr} {σ : L2.St} {H : Hp} {ta tb : TE} {R S : List (List Key)}
/-- one + other, without a common pair -/
theorem g_addO (h : EvP.Gives ta σ H (ordP C R)) (k : EvP.Gives tb σ H (ordP C S)) (rR : RowO R) (rS : RowO S) (r : RowO (R ++ S)) : EvP.Gives (tOp (Own.rOwnX C (spOAdd C CO CT) E0) ta tb) σ H (ordP C (R ++ S)) :=
  g_op h k fun x y H1 e ⟨a, ex, sa⟩ ⟨b, ey, sb⟩ Q q => by
    subst ex ey
    exact ⟨ord_ins sa, ord_ins sb, a, b, R, S, rfl, sa, sb, rR, rS, by have := r.few; omega, outs_ok r fun c H' e' sc => q _ _ e' ⟨c, rfl, sc⟩⟩
end
theorem RowO.take {R : List (List Key)} (h : RowO R) (m : Nat) : RowO (R.take m) :=
  ⟨h.nod.sublist (List.take_sublist _ _), fun k hk => h.fine k (List.mem_of_mem_take hk), Nat.le_trans (by rw [List.length_take]; exact Nat.min_le_right ..) h.few⟩
section
variable {P : Program} {w : World} {K : PySem.W.Frag} {mg : Str → Option Value} {base : Heap} {C CO CT f : Addr} {fd : FuncData}
theorem ok_lawO (F : Fun K "law" "law" sLaw f fd) (T : Fk.Blt mg) (hR : mg "range" = none) (M : OrdQ P w K mg base C CO CT)
    (DP : CalD P w K mg base 1 "_law_pen" ["script"] (spPen K)) (DR : CalD P w K mg base 4 "_law_row" ["pen"] spRowO) (DN : CalD P w K mg base 5 "_law_near" ["pen", "row"] spNear) (DS : CalD P w K mg base 9 "_law_signs_right" ["pen", "row", "rest"] spSigns) (DL : CalD P w K mg base 9 "_law_places_right" ["pen", "row", "rest"] spPlaces) : FnOk P w K mg base CX0 10 f fd ["script"] (spLawO K) := by
  have nd := scLaw.nd
  refine F.ok scLaw (fun vs H Q E h => ?_) (fun cdv A outer s0 H vs Q E hr h => ?_)
  · obtain ⟨a, ns, rfl, _⟩ := h
    rfl
  · refine ⟨_, pss_cons (ps_set (i := 1) nd rfl (Or.inl rfl) (pe_call DP.ok (hr.mono (by decide)) (by rfl) DP.g DP.kp DP.b .nil pass0 (pa_cons (pv 0) pa_nil)))
      (pss_cons (ps_for PassesOwn.never rfl (pi_range1 rfl hR (pa_cons pe_int pa_nil)) (pg_name (i := 2) nd rfl (Or.inl rfl))
        (pss_cons (ps_set (i := 3) nd rfl (Or.inl rfl) (pe_slice sl_list (pe_call DR.ok (hr.mono (by decide)) (by rfl) DR.g DR.kp DR.b .nil pass0 (pa_cons (pv 1) pa_nil)) po_none (po_some pe_int)))
        (pss_cons (ps_set (i := 4) nd rfl (Or.inl rfl) (pe_slice sl_list (pe_call DN.ok (hr.mono (by decide)) (by rfl) DN.g DN.kp DN.b .nil pass0 (pa_cons (pv 1) (pa_cons (pv 3) pa_nil))) po_none (po_some pe_int)))
        (pss_one (ps_if (PW.pt (pw_or (pt_not (pt_val (pe_call DS.ok hr (by rfl) DS.g DS.kp DS.b .nil pass0 (pa_cons (pv 1) (pa_cons (pv 3) (pa_cons (pv 4) pa_nil))))))
          (pw_or1 (pt_not (pt_val (pe_call DL.ok hr (by rfl) DL.g DL.kp DL.b .nil pass0 (pa_cons (pv 1) (pa_cons (pv 3) (pa_cons (pv 4) pa_nil))))))))) (pss_one (ps_ret pe_bl)) pss_nil)))))
      (pss_cons (ps_set (i := 5) nd rfl (Or.inl rfl) (StO.pe_makeR0 (E := E0) M.mkC M.gi (hr.mono (by decide)) (by rfl) M.gO passL))
      (pss_one (ps_ret (pe_and (pe_cmpR (Own.cmp_own (op := .LtE) M.le (hr.mono (by decide))) (pv 5) (pv 5) (nomark _))
        (pe_and (pe_cmpR (Own.cmp_own (op := .Eq) M.eq (hr.mono (by decide))) (pe_op (Own.op_own (op := .Sub) M.sub M.first (hr.mono (by decide))) (pv 5) (pv 5)) (pv 5) (nomark _))
        (pe_and (pe_cmpR (Own.cmp_own (op := .Eq) M.eq (hr.mono (by decide))) (pe_un (Own.un_own M.inv (hr.mono (by decide))) (pv 5)) (pv 5) (nomark _))
        (pe_one (pe_cmpR (Own.cmp_own (op := .Eq) M.eq (hr.mono (by decide))) (pe_op (Own.op_ownX0 (op := .Add) M.add M.first (hr.mono (by decide))) (pv 5) (pv 5)) (pv 5) (nomark _)))))))))), ?_⟩
    obtain ⟨a, ns, rfl, hS, hl, q⟩ := h
    refine ⟨_, rfl, a, ns, rfl, hS, hl, fun p qc ms H1 hm hP1 x1 => ?_⟩
    refine ⟨6, rfl, by decide, by decide, for_range (lo := 0) (n := 6) (fun k σ H' => ∃ (o2 o3 o4 : Option V) (s g : Int), σ = [some (.ref a), some (.ref p), o2, o3, o4, none] ∧ Pen H' p qc ms s g ∧ 0 ≤ s ∧ s ≤ 400 * (k : Int)) ?_ ?_ ?_⟩
    · exact ⟨none, none, none, 0, 0, rfl, hP1, by omega, by omega⟩
    · rintro k σ H2 hk ⟨o2, o3, o4, s, g, rfl, hP2, s0, s1⟩
      -- row = _law_row(pen)[:22]
      refine ⟨_, rfl, p, qc, ms, s, g, rfl, hP2, hm, s0, by omega, fun f1 ks s2 g2 H3 go nf hf lie z0 z1 hP3 hB3 => ?_⟩
      refine ⟨_, rfl, f1, _, rfl, SqL.of hf, fun r nr => ?_⟩
      rw [show ((22 : Int)) = ((22 : Nat) : Int) from rfl, cutV_pre, refs_take]
      have er := Ex.new (o := .lst (refs (ks.take 22))) nr
      have hr1 : upd H3 r (.lst (refs (ks.take 22))) r = some (.lst (refs (ks.take 22))) := upd_same
      have lieR : Lie (upd H3 r (.lst (refs (ks.take 22)))) (ks.take 22) := fun y hy => er _ _ (lie y (List.mem_of_mem_take hy))
      have hP4 := pen_ex hP3 er
      have rowR : RowO ((ks.take 22).map Prod.fst) := by
        rw [List.map_take]
        exact RowO.take ⟨go.nod, go.key, go.few⟩ 22
      have noL : key2 "late" "x" ∉ (ks.take 22).map Prod.fst := fun hk => go.late (by rw [List.map_take] at hk; exact List.mem_of_mem_take hk)
      have l22 : (ks.take 22).length ≤ 22 := by rw [List.length_take]; exact Nat.min_le_left ..
      generalize upd H3 r (.lst (refs (ks.take 22))) = H4 at hr1 lieR hP4 ⊢
      generalize ks.take 22 = kr at hr1 lieR rowR noL l22 ⊢
      -- rest = _law_near(pen, row)[:14]
      refine ⟨_, rfl, _, rfl, p, qc, ms, s2, g2, r, kr, rfl, hP4, hm, by omega, by omega, hr1, list_pen hP4 hr1, lieR, rowR, noL, fun f2 fk s5 g5 H5 no hf2 lie2 t0 t1 hP5 bt5 => ?_⟩
      refine ⟨_, rfl, f2, _, rfl, SqL.of hf2, fun u nu => ?_⟩
      rw [show ((14 : Int)) = ((14 : Nat) : Int) from rfl, cutV_pre, refs_take]
      have eu := Ex.new (o := .lst (refs (fk.take 14))) nu
      have hu1 : upd H5 u (.lst (refs (fk.take 14))) u = some (.lst (refs (fk.take 14))) := upd_same
      have lieS : Lie (upd H5 u (.lst (refs (fk.take 14)))) (fk.take 14) := fun y hy => eu _ _ (lie2 y (List.mem_of_mem_take hy))
      have hP6 := pen_ex hP5 eu
      have rowS : RowO ((fk.take 14).map Prod.fst) := by
        rw [List.map_take]
        exact ⟨no.nod.sublist (List.take_sublist _ _), fun z hz => no.fine z (List.mem_of_mem_take hz), by rw [List.length_take]; omega⟩
      have l14 : (fk.take 14).length ≤ 14 := by rw [List.length_take]; exact Nat.min_le_left ..
      have hr6 := eu _ _ (bt5 _ _ hr1 (list_pen hP4 hr1))
      have lieR6 : Lie (upd H5 u (.lst (refs (fk.take 14)))) kr := (lie_but lieR hP4 bt5).ex eu
      generalize upd H5 u (.lst (refs (fk.take 14))) = H6 at hu1 lieS hP6 hr6 lieR6 ⊢
      generalize fk.take 14 = fr at hu1 lieS rowS l14 ⊢
      dsimp only [gName]
      -- if not .. or not ..: return False
      refine ⟨_, rfl, _, rfl, _, rfl, .ref p, r, u, kr, fr, rfl, hr6, hu1, lieR6, lieS, rowR, rowS, by omega, fun H7 e7 => ⟨true, rfl, ?_⟩⟩
      refine ⟨_, rfl, _, rfl, _, rfl, p, qc, ms, s5, g5, r, u, kr, fr, rfl, pen_ex hP6 e7, hm, by omega, by omega, e7 _ _ hr6, e7 _ _ hu1, lieR6.ex e7, lieS.ex e7, rowR, rowS, fun s8 g8 H8 c0 c1 hP8 bt8 => ⟨true, rfl, ?_⟩⟩
      exact ⟨_, _, _, s8, g8, rfl, hP8, by omega, by push_cast; omega⟩
    · rintro σ H3 ⟨o2, o3, o4, s, g, rfl, hP3, s0, s1⟩
      refine EvP.st_set (g_make0 (C := C) (CO := CO) (CT := CT)) fun v4 H4 e4 hv4 => ?_
      obtain ⟨b, rfl, ob⟩ := hv4
      have v5 : EvP.Gives (tVar 5) [some (.ref a), some (.ref p), o2, o3, o4, some (.ref b)] H4 (ordP C []) := var_ord rfl ob
      have g1 := g_leO (K := K) v5 v5 row0 row0
      have g2 := g_eqO (K := K) (g_two (f := subK) v5 v5 row0 row0) v5 (fun k hk => by cases hk) (fun k hk => by cases hk)
      have g3 := g_eqO (K := K) (g_invO v5 row0) v5 (fun k hk => by cases hk) (fun k hk => by cases hk)
      have g4 := g_eqO (K := K) (g_addO (CO := CO) (CT := CT) v5 v5 row0 row0 row0) v5 (fun k hk => by cases hk) (fun k hk => by cases hk)
      refine EvP.st_ret (P := is (.bl true)) (g_and g1 (g_and g2 (g_and g3 g4))) fun v9 H9 e9 ev => ?_
      cases (show v9 = _ from ev)
      exact q _
end
end Od

set_option Elab.async false
set_option linter.all false
set_option maxRecDepth 100000
set_option maxHeartbeats 4000000
/-! The facts of the text, put together. -/
namespace Od
open PySem PySem.Spec PyProof.Rows L2 EvP Cm Fk DtE Tb Fi KSet Wd Hd
open Dg hiding numT
def errO : Stmt := match Fk.top 8 with
  | .ClassDef _ _ _ body _ _ _ _ _ _ _ => body.getD 0 (.Pass ⟨0, 0, 0, 0⟩)
  | _ => .Pass ⟨0, 0, 0, 0⟩
def errT : Stmt := match Fk.top 12 with
  | .ClassDef _ _ _ body _ _ _ _ _ _ _ => body.getD 0 (.Pass ⟨0, 0, 0, 0⟩)
  | _ => .Pass ⟨0, 0, 0, 0⟩
theorem scErrO : FnScope ["self", "part"] ["self", "part"] (defScope errO) := ⟨rfl, rfl, rfl, by decide +kernel, rfl, by decide +kernel, by decide +kernel⟩
theorem scErrT : FnScope ["self", "what", "most"] ["self", "what", "most"] (defScope errT) := ⟨rfl, rfl, rfl, by decide +kernel, rfl, by decide +kernel, by decide +kernel⟩
theorem all_mk {P : Program} {w : World} {K : PySem.W.Frag} {h : Heap} {mg : Str → Option Value} {fa : Addr} (X : K.In h) (G : h.Ns mainGlobals mg) (hfa : mg "law" = some (.ref fa)) (T : Hk.Told FA FN EX K) :
    ∃ fd : FuncData, (∀ (s : Shared) (u : Value), BindsTo s fd ⟨[u], []⟩ [("script", u)]) ∧ ∀ base : Heap, K.In base → base.Ns mainGlobals mg → FnOk P w K mg base CX0 10 fa fd ["script"] (spLawO K) := by
  obtain ⟨fdA0, FDA0⟩ := T.d.def_ 0 (d := FN0) rfl
  have F0 := He5.fun_of (x := "is_name") (qual := "is_name") (st := Fk.sName) FDA0
  have G0 : mg "is_name" = some (.ref (He.ga K "is_name")) := He.glo_ok X G (T.d.fact 0 (f := .glo "is_name") rfl)
  have E0 : PySem.W.keepIn K (.ref (He.ga K "is_name")) = true := FDA0.kp
  have b0 := F0.binds (ps := ["value"]) fun _ _ _ _ _ _ us hl => match us, hl with | [_], _ => rfl
  obtain ⟨fdA1, FDA1⟩ := T.d.def_ 1 (d := FN1) rfl
  have F1 := He5.fun_of (x := "is_pair") (qual := "is_pair") (st := Fk.sPair) FDA1
  have G1 : mg "is_pair" = some (.ref (He.ga K "is_pair")) := He.glo_ok X G (T.d.fact 1 (f := .glo "is_pair") rfl)
  have E1 : PySem.W.keepIn K (.ref (He.ga K "is_pair")) = true := FDA1.kp
  have b1 := F1.binds (ps := ["value"]) fun _ _ _ _ _ _ us hl => match us, hl with | [_], _ => rfl
  obtain ⟨fdA2, FDA2⟩ := T.d.def_ 2 (d := FN2) rfl
  have F2 := He5.fun_of (x := "is_row") (qual := "is_row") (st := Tb.sRow) FDA2
  have G2 : mg "is_row" = some (.ref (He.ga K "is_row")) := He.glo_ok X G (T.d.fact 2 (f := .glo "is_row") rfl)
  have E2 : PySem.W.keepIn K (.ref (He.ga K "is_row")) = true := FDA2.kp
  have b2 := F2.binds (ps := ["value"]) fun _ _ _ _ _ _ us hl => match us, hl with | [_], _ => rfl
  obtain ⟨fdA3, FDA3⟩ := T.d.def_ 3 (d := FN3) rfl
  have F3 := He5.fun_of (x := "check_pairs") (qual := "check_pairs") (st := Od.sChk) FDA3
  have G3 : mg "check_pairs" = some (.ref (He.ga K "check_pairs")) := He.glo_ok X G (T.d.fact 3 (f := .glo "check_pairs") rfl)
  have E3 : PySem.W.keepIn K (.ref (He.ga K "check_pairs")) = true := FDA3.kp
  have b3 := F3.binds (ps := ["values"]) fun _ _ _ _ _ _ us hl => match us, hl with | [_], _ => rfl
  obtain ⟨fdA4, FDA4⟩ := T.d.def_ 4 (d := FN4) rfl
  have F4 := He5.fun_of (x := "check_other") (qual := "check_other") (st := Od.sOther) FDA4
  have G4 : mg "check_other_orders" = some (.ref (He.ga K "check_other_orders")) := He.glo_ok X G (T.d.fact 4 (f := .glo "check_other_orders") rfl)
  have E4 : PySem.W.keepIn K (.ref (He.ga K "check_other_orders")) = true := FDA4.kp
  have b4 := F4.binds (ps := ["other"]) fun _ _ _ _ _ _ us hl => match us, hl with | [_], _ => rfl
  obtain ⟨fdA5, FDA5⟩ := T.d.def_ 5 (d := FN5) rfl
  have F5 := He5.fun_of (x := "_law_pen") (qual := "_law_pen") (st := K19.sPen) FDA5
  have G5 : mg "_law_pen" = some (.ref (He.ga K "_law_pen")) := He.glo_ok X G (T.d.fact 5 (f := .glo "_law_pen") rfl)
  have E5 : PySem.W.keepIn K (.ref (He.ga K "_law_pen")) = true := FDA5.kp
  have b5 := F5.binds (ps := ["script"]) fun _ _ _ _ _ _ us hl => match us, hl with | [_], _ => rfl
  obtain ⟨fdA6, FDA6⟩ := T.d.def_ 6 (d := FN6) rfl
  have F6 := He5.fun_of (x := "_law_draw") (qual := "_law_draw") (st := K19.sDraw) FDA6
  have G6 : mg "_law_draw" = some (.ref (He.ga K "_law_draw")) := He.glo_ok X G (T.d.fact 6 (f := .glo "_law_draw") rfl)
  have E6 : PySem.W.keepIn K (.ref (He.ga K "_law_draw")) = true := FDA6.kp
  have b6 := F6.binds (ps := ["pen", "many"]) fun _ _ _ _ _ _ us hl => match us, hl with | [_, _], _ => rfl
  obtain ⟨fdA7, FDA7⟩ := T.d.def_ 7 (d := FN7) rfl
  have F7 := He5.fun_of (x := "_law_pick") (qual := "_law_pick") (st := K19.sPick) FDA7
  have G7 : mg "_law_pick" = some (.ref (He.ga K "_law_pick")) := He.glo_ok X G (T.d.fact 7 (f := .glo "_law_pick") rfl)
  have E7 : PySem.W.keepIn K (.ref (He.ga K "_law_pick")) = true := FDA7.kp
  have b7 := F7.binds (ps := ["pen", "some"]) fun _ _ _ _ _ _ us hl => match us, hl with | [_, _], _ => rfl
  obtain ⟨fdA8, FDA8⟩ := T.d.def_ 8 (d := FN8) rfl
  have F8 := He5.fun_of (x := "_law_mixed") (qual := "_law_mixed") (st := Od.sMixed) FDA8
  have G8 : mg "_law_mixed" = some (.ref (He.ga K "_law_mixed")) := He.glo_ok X G (T.d.fact 8 (f := .glo "_law_mixed") rfl)
  have E8 : PySem.W.keepIn K (.ref (He.ga K "_law_mixed")) = true := FDA8.kp
  have b8 := F8.binds (ps := ["pen", "some"]) fun _ _ _ _ _ _ us hl => match us, hl with | [_, _], _ => rfl
  obtain ⟨fdA9, FDA9⟩ := T.d.def_ 9 (d := FN9) rfl
  have F9 := He5.fun_of (x := "_law_row") (qual := "_law_row") (st := Od.sRowO) FDA9
  have G9 : mg "_law_row" = some (.ref (He.ga K "_law_row")) := He.glo_ok X G (T.d.fact 9 (f := .glo "_law_row") rfl)
  have E9 : PySem.W.keepIn K (.ref (He.ga K "_law_row")) = true := FDA9.kp
  have b9 := F9.binds (ps := ["pen"]) fun _ _ _ _ _ _ us hl => match us, hl with | [_], _ => rfl
  obtain ⟨fdA10, FDA10⟩ := T.d.def_ 10 (d := FN10) rfl
  have F10 := He5.fun_of (x := "_law_joined") (qual := "_law_joined") (st := Od.sJoined) FDA10
  have G10 : mg "_law_joined" = some (.ref (He.ga K "_law_joined")) := He.glo_ok X G (T.d.fact 10 (f := .glo "_law_joined") rfl)
  have E10 : PySem.W.keepIn K (.ref (He.ga K "_law_joined")) = true := FDA10.kp
  have b10 := F10.binds (ps := ["one", "other"]) fun _ _ _ _ _ _ us hl => match us, hl with | [_, _], _ => rfl
  obtain ⟨fdA11, FDA11⟩ := T.d.def_ 11 (d := FN11) rfl
  have F11 := He5.fun_of (x := "_law_is_within") (qual := "_law_is_within") (st := Od.sWithin) FDA11
  have G11 : mg "_law_is_within" = some (.ref (He.ga K "_law_is_within")) := He.glo_ok X G (T.d.fact 11 (f := .glo "_law_is_within") rfl)
  have E11 : PySem.W.keepIn K (.ref (He.ga K "_law_is_within")) = true := FDA11.kp
  have b11 := F11.binds (ps := ["row", "rest"]) fun _ _ _ _ _ _ us hl => match us, hl with | [_, _], _ => rfl
  obtain ⟨fdA12, FDA12⟩ := T.d.def_ 12 (d := FN12) rfl
  have F12 := He5.fun_of (x := "_law_bound") (qual := "_law_bound") (st := Od.sBound) FDA12
  have G12 : mg "_law_bound" = some (.ref (He.ga K "_law_bound")) := He.glo_ok X G (T.d.fact 12 (f := .glo "_law_bound") rfl)
  have E12 : PySem.W.keepIn K (.ref (He.ga K "_law_bound")) = true := FDA12.kp
  have b12 := F12.binds (ps := ["one", "other"]) fun _ _ _ _ _ _ us hl => match us, hl with | [_, _], _ => rfl
  obtain ⟨fdA13, FDA13⟩ := T.d.def_ 13 (d := FN13) rfl
  have F13 := He5.fun_of (x := "_law_near") (qual := "_law_near") (st := Od.sNear) FDA13
  have G13 : mg "_law_near" = some (.ref (He.ga K "_law_near")) := He.glo_ok X G (T.d.fact 13 (f := .glo "_law_near") rfl)
  have E13 : PySem.W.keepIn K (.ref (He.ga K "_law_near")) = true := FDA13.kp
  have b13 := F13.binds (ps := ["pen", "row"]) fun _ _ _ _ _ _ us hl => match us, hl with | [_, _], _ => rfl
  obtain ⟨fdA14, FDA14⟩ := T.d.def_ 14 (d := FN14) rfl
  have F14 := He5.fun_of (x := "_law_signs_right") (qual := "_law_signs_right") (st := Od.sSigns) FDA14
  have G14 : mg "_law_signs_right" = some (.ref (He.ga K "_law_signs_right")) := He.glo_ok X G (T.d.fact 14 (f := .glo "_law_signs_right") rfl)
  have E14 : PySem.W.keepIn K (.ref (He.ga K "_law_signs_right")) = true := FDA14.kp
  have b14 := F14.binds (ps := ["pen", "row", "rest"]) fun _ _ _ _ _ _ us hl => match us, hl with | [_, _, _], _ => rfl
  obtain ⟨fdA15, FDA15⟩ := T.d.def_ 15 (d := FN15) rfl
  have F15 := He5.fun_of (x := "_law_places_right") (qual := "_law_places_right") (st := Od.sPlaces) FDA15
  have G15 : mg "_law_places_right" = some (.ref (He.ga K "_law_places_right")) := He.glo_ok X G (T.d.fact 15 (f := .glo "_law_places_right") rfl)
  have E15 : PySem.W.keepIn K (.ref (He.ga K "_law_places_right")) = true := FDA15.kp
  have b15 := F15.binds (ps := ["pen", "row", "rest"]) fun _ _ _ _ _ _ us hl => match us, hl with | [_, _, _], _ => rfl
  obtain ⟨fdA16, FDA16⟩ := T.d.def_ 16 (d := FN16) rfl
  have F16 := He5.fun_of (x := "law") (qual := "law") (st := Od.sLaw) FDA16
  have G16 : mg "law" = some (.ref (He.ga K "law")) := He.glo_ok X G (T.d.fact 16 (f := .glo "law") rfl)
  have E16 : PySem.W.keepIn K (.ref (He.ga K "law")) = true := FDA16.kp
  have b16 := F16.binds (ps := ["script"]) fun _ _ _ _ _ _ us hl => match us, hl with | [_], _ => rfl
  obtain ⟨fdI, FDI⟩ := T.d.def_ 17 (d := FN17) rfl
  have G_I : mg "is_integer" = some (.ref (He.ga K "is_integer")) := He.glo_ok X G (T.d.fact 17 (f := .glo "is_integer") rfl)
  have E_I : PySem.W.keepIn K (.ref (He.ga K "is_integer")) = true := FDI.kp
  have bd_I : Binds K fdI ["value", "least"] [] := by
    obtain ⟨ds, rd, bd⟩ := FDI.binds1 (ps := ["value", "least"]) 2 1 (by intro z; cases z) rfl fun T kV doc pm an cdv ct us its hu hi => match us, its, hu, hi with | [_, _], [_], _, _ => ⟨_, rfl, rfl⟩
    cases rd
    exact bd
  obtain ⟨fdoI, FDoI⟩ := T.d.def_ 18 (d := FN18) rfl
  have FoI := He5.fun_of (x := "__init__") (qual := "Order.__init__") (st := (Od.ometh 0)) FDoI
  have MoI : Meth K (He.ga K "Order") "__init__" (He.ma K (He.ga K "Order") "__init__") := He.meth_ok (T.d.fact 18 (f := .meth "Order" "__init__") rfl)
  obtain ⟨fdoL, FDoL⟩ := T.d.def_ 19 (d := FN19) rfl
  have FoL := He5.fun_of (x := "__len__") (qual := "Order.__len__") (st := (Od.ometh 2)) FDoL
  have MoL : Meth K (He.ga K "Order") "__len__" (He.ma K (He.ga K "Order") "__len__") := He.meth_ok (T.d.fact 19 (f := .meth "Order" "__len__") rfl)
  have BoL := FoL.binds (ps := ["self"]) fun _ _ _ _ _ _ us hl => match us, hl with | [_], _ => rfl
  obtain ⟨fdoT, FDoT⟩ := T.d.def_ 20 (d := FN20) rfl
  have FoT := He5.fun_of (x := "__iter__") (qual := "Order.__iter__") (st := (Od.ometh 3)) FDoT
  have MoT : Meth K (He.ga K "Order") "__iter__" (He.ma K (He.ga K "Order") "__iter__") := He.meth_ok (T.d.fact 20 (f := .meth "Order" "__iter__") rfl)
  have BoT := FoT.binds (ps := ["self"]) fun _ _ _ _ _ _ us hl => match us, hl with | [_], _ => rfl
  obtain ⟨fdoE, FDoE⟩ := T.d.def_ 21 (d := FN21) rfl
  have FoE := He5.fun_of (x := "__eq__") (qual := "Order.__eq__") (st := (Od.ometh 15)) FDoE
  have MoE : Meth K (He.ga K "Order") "__eq__" (He.ma K (He.ga K "Order") "__eq__") := He.meth_ok (T.d.fact 21 (f := .meth "Order" "__eq__") rfl)
  have BoE := FoE.binds (ps := ["self", "other"]) fun _ _ _ _ _ _ us hl => match us, hl with | [_, _], _ => rfl
  obtain ⟨fdoA, FDoA⟩ := T.d.def_ 22 (d := FN22) rfl
  have FoA := He5.fun_of (x := "__add__") (qual := "Order.__add__") (st := (Od.ometh 8)) FDoA
  have MoA : Meth K (He.ga K "Order") "__add__" (He.ma K (He.ga K "Order") "__add__") := He.meth_ok (T.d.fact 22 (f := .meth "Order" "__add__") rfl)
  have BoA := FoA.binds (ps := ["self", "other"]) fun _ _ _ _ _ _ us hl => match us, hl with | [_, _], _ => rfl
  obtain ⟨fdoS, FDoS⟩ := T.d.def_ 23 (d := FN23) rfl
  have FoS := He5.fun_of (x := "__sub__") (qual := "Order.__sub__") (st := (Od.ometh 9)) FDoS
  have MoS : Meth K (He.ga K "Order") "__sub__" (He.ma K (He.ga K "Order") "__sub__") := He.meth_ok (T.d.fact 23 (f := .meth "Order" "__sub__") rfl)
  have BoS := FoS.binds (ps := ["self", "other"]) fun _ _ _ _ _ _ us hl => match us, hl with | [_, _], _ => rfl
  obtain ⟨fdoD, FDoD⟩ := T.d.def_ 24 (d := FN24) rfl
  have FoD := He5.fun_of (x := "__and__") (qual := "Order.__and__") (st := (Od.ometh 10)) FDoD
  have MoD : Meth K (He.ga K "Order") "__and__" (He.ma K (He.ga K "Order") "__and__") := He.meth_ok (T.d.fact 24 (f := .meth "Order" "__and__") rfl)
  have BoD := FoD.binds (ps := ["self", "other"]) fun _ _ _ _ _ _ us hl => match us, hl with | [_, _], _ => rfl
  obtain ⟨fdoQ, FDoQ⟩ := T.d.def_ 25 (d := FN25) rfl
  have FoQ := He5.fun_of (x := "__le__") (qual := "Order.__le__") (st := (Od.ometh 11)) FDoQ
  have MoQ : Meth K (He.ga K "Order") "__le__" (He.ma K (He.ga K "Order") "__le__") := He.meth_ok (T.d.fact 25 (f := .meth "Order" "__le__") rfl)
  have BoQ := FoQ.binds (ps := ["self", "other"]) fun _ _ _ _ _ _ us hl => match us, hl with | [_, _], _ => rfl
  obtain ⟨fdoV, FDoV⟩ := T.d.def_ 26 (d := FN26) rfl
  have FoV := He5.fun_of (x := "__invert__") (qual := "Order.__invert__") (st := (Od.ometh 12)) FDoV
  have MoV : Meth K (He.ga K "Order") "__invert__" (He.ma K (He.ga K "Order") "__invert__") := He.meth_ok (T.d.fact 26 (f := .meth "Order" "__invert__") rfl)
  have BoV := FoV.binds (ps := ["self"]) fun _ _ _ _ _ _ us hl => match us, hl with | [_], _ => rfl
  obtain ⟨fdoP, FDoP⟩ := T.d.def_ 27 (d := FN27) rfl
  have FoP := He5.fun_of (x := "place") (qual := "Order.place") (st := (Od.ometh 6)) FDoP
  have MoP : Meth K (He.ga K "Order") "place" (He.ma K (He.ga K "Order") "place") := He.meth_ok (T.d.fact 27 (f := .meth "Order" "place") rfl)
  have BoP := FoP.binds (ps := ["self", "pair"]) fun _ _ _ _ _ _ us hl => match us, hl with | [_, _], _ => rfl
  obtain ⟨fdoM, FDoM⟩ := T.d.def_ 28 (d := FN28) rfl
  have FoM := He5.fun_of (x := "moved") (qual := "Order.moved") (st := (Od.ometh 7)) FDoM
  have MoM : Meth K (He.ga K "Order") "moved" (He.ma K (He.ga K "Order") "moved") := He.meth_ok (T.d.fact 28 (f := .meth "Order" "moved") rfl)
  have BoM := FoM.binds (ps := ["self", "pair", "k"]) fun _ _ _ _ _ _ us hl => match us, hl with | [_, _, _], _ => rfl
  obtain ⟨fdoR, FDoR⟩ := T.d.def_ 29 (d := FN29) rfl
  have FoR := He5.fun_of (x := "reduced") (qual := "Order.reduced") (st := (Od.ometh 13)) FDoR
  have MoR : Meth K (He.ga K "Order") "reduced" (He.ma K (He.ga K "Order") "reduced") := He.meth_ok (T.d.fact 29 (f := .meth "Order" "reduced") rfl)
  have BoR := FoR.binds (ps := ["self", "pairs"]) fun _ _ _ _ _ _ us hl => match us, hl with | [_, _], _ => rfl
  obtain ⟨fdoO, FDoO⟩ := T.d.def_ 30 (d := FN30) rfl
  have FoO := He5.fun_of (x := "of") (qual := "Order.of") (st := (Od.ometh 1)) FDoO
  have CoO : ClX.CMet K (He.ga K "Order") (.type "type") "of" (He.ma K (He.ga K "Order") "of") (Hk.cmAt K (He.ga K "Order") "of") := Hk.cmB_ok (T.ex 0 (b := EX0) rfl)
  have BoO := FoO.binds (ps := ["cls", "pairs"]) fun _ _ _ _ _ _ us hl => match us, hl with | [_, _], _ => rfl
  obtain ⟨fdE_O, FDE_O⟩ := T.d.def_ 31 (d := FN31) rfl
  have ME_O := He5.fun_of (x := "__init__") (qual := "BadOrder.__init__") (st := Od.errO) FDE_O
  have dE_O := ME_O.binds (ps := ["self", "part"]) fun _ _ _ _ _ _ us hl => match us, hl with | [_, _], _ => rfl
  have gx_O : mg "BadOrder" = some (.ref (He.ga K "BadOrder")) := He.glo_ok X G (T.d.fact 30 (f := .glo "BadOrder") rfl)
  have oex_O : OexC K (He.ga K "BadOrder") := Hk.errB_ok (T.ex 2 (b := EX2) rfl)
  have xa_O : PySem.W.findIn K (.ref (He.ga K "BadOrder")) "__init__" = some (some (.ref (He.ma K (He.ga K "BadOrder") "__init__"))) := (He.meth_ok (T.d.fact 31 (f := .meth "BadOrder" "__init__") rfl)).1
  obtain ⟨xfc_O, exc_O, u12_O, u13_O, u14_O, u15_O⟩ := Hk.errF_ok (T.ex 1 (b := EX1) rfl)
  obtain ⟨fdE_T, FDE_T⟩ := T.d.def_ 32 (d := FN32) rfl
  have ME_T := He5.fun_of (x := "__init__") (qual := "TooMany.__init__") (st := Od.errT) FDE_T
  have dE_T := ME_T.binds (ps := ["self", "what", "most"]) fun _ _ _ _ _ _ us hl => match us, hl with | [_, _, _], _ => rfl
  have gx_T : mg "TooMany" = some (.ref (He.ga K "TooMany")) := He.glo_ok X G (T.d.fact 32 (f := .glo "TooMany") rfl)
  have oex_T : OexC K (He.ga K "TooMany") := Hk.errB_ok (T.ex 4 (b := EX4) rfl)
  have xa_T : PySem.W.findIn K (.ref (He.ga K "TooMany")) "__init__" = some (some (.ref (He.ma K (He.ga K "TooMany") "__init__"))) := (He.meth_ok (T.d.fact 33 (f := .meth "TooMany" "__init__") rfl)).1
  obtain ⟨xfc_T, exc_T, u12_T, u13_T, u14_T, u15_T⟩ := Hk.errF_ok (T.ex 3 (b := EX3) rfl)
  have e := hfa.symm.trans G16
  cases e
  have bl := FunD.bindsA (ps := ["script"]) FDA16 fun _ _ _ _ _ _ us hl => match us, hl with | [_], _ => rfl
  obtain ⟨tL, gL⟩ := He.int_ok X G (T.d.fact 46 (f := .int "LONGEST_NAME" 8) rfl)
  obtain ⟨tM, gM⟩ := He.int_ok X G (T.d.fact 47 (f := .int "MOST_PAIRS" 36) rfl)
  have gN := He.glo_ok X G (T.d.fact 48 (f := .glo "NO_NAMES") rfl)
  have B : Fk.Blt mg := ⟨He.free_ok X G (T.d.fact 34 (f := .free "isinstance") rfl), He.free_ok X G (T.d.fact 35 (f := .free "int") rfl), He.free_ok X G (T.d.fact 36 (f := .free "bool") rfl), He.free_ok X G (T.d.fact 37 (f := .free "str") rfl), He.free_ok X G (T.d.fact 38 (f := .free "len") rfl)⟩
  have T3 : K19.Blt mg := ⟨He.free_ok X G (T.d.fact 35 (f := .free "int") rfl), He.free_ok X G (T.d.fact 38 (f := .free "len") rfl), He.free_ok X G (T.d.fact 42 (f := .free "abs") rfl), He.free_ok X G (T.d.fact 40 (f := .free "list") rfl)⟩
  have R : Fk.BltR mg := ⟨He.free_ok X G (T.d.fact 40 (f := .free "list") rfl), He.free_ok X G (T.d.fact 39 (f := .free "tuple") rfl)⟩
  have zS := He.free_ok X G (T.d.fact 44 (f := .free "set") rfl)
  have zI := He.free_ok X G (T.d.fact 43 (f := .free "iter") rfl)
  have zL := He.free_ok X G (T.d.fact 40 (f := .free "list") rfl)
  have zT := He.free_ok X G (T.d.fact 39 (f := .free "tuple") rfl)
  have zR := He.free_ok X G (T.d.fact 41 (f := .free "range") rfl)
  have zP := He.free_ok X G (T.d.fact 45 (f := .free "repr") rfl)
  have gO := He.glo_ok X G (T.d.fact 49 (f := .glo "Order") rfl)
  have gF := He.glo_ok X G (T.d.fact 50 (f := .glo "FillError") rfl)
  have hN : ∀ H, SqT K H (He.ga K "NO_NAMES") [.str "none", .str "self"] := fun H => Hk.tupAt_ok (T.ex 5 (b := EX5) rfl) H
  have S : OrdC K (He.ga K "Order") := ⟨He.cls_ok (T.d.fact 51 (f := .cls "Order") rfl), He.noat_ok (T.d.fact 52 (f := .noat "Order" "pairs") rfl)⟩
  obtain ⟨q1, q2, q3, q4⟩ := Hk.insB_ok (T.ex 6 (b := EX6) rfl)
  have SI : SideI K (He.ga K "Order") := ⟨q1, q2, q3, q4⟩
  have bx_O : BadX K (He.ga K "FillError") (He.ga K "BadOrder") := ⟨u15_O, exc_O, xfc_O⟩
  refine ⟨fdA16, fun s v => bl s [v] rfl, fun base _ _ => ?_⟩
  have LO : Od.PartC P w K mg base "BadOrder" (He.ga K "BadOrder") _ _ := ⟨oex_O, xa_O, u12_O, u13_O, ok_init1 ME_O rfl scErrO (fun _ => rfl) rfl rfl, dE_O, gx_O⟩
  have LM : Od.ManyC P w K mg base (He.ga K "TooMany") _ _ := ⟨oex_T, xa_T, u12_T, u13_T, u14_T, ok_init2 ME_T rfl scErrT (fun _ => rfl) (fun _ => rfl) rfl rfl rfl rfl, dE_T, gx_T⟩
  have okN := Fk.ok_name (tN := 0) (P := P) (w := w) (base := base) F0 B gL gN hN
  have okP := Tb.ok_pair (P := P) (w := w) (base := base) F1 B R okN b0 G0 E0
  have okRw := Tb.ok_row (P := P) (w := w) (base := base) F2 B R
  have okCk := Od.ok_chk (P := P) (w := w) (base := base) F3 okP b1 G1 E1
  have okCA := Od.ok_chkA (P := P) (w := w) (base := base) F3 okP b1 G1 E1
  have okI := Fk.ok_integer (P := P) (w := w) (base := base) FDI B
  -- Order
  have mkO : Mk K (He.ga K "Order") _ := He.mkr_ok (T.d.fact 53 (f := .mkr "Order") rfl)
  obtain ⟨oc0, od0, kV0, dc0, pm0, an0, cd0, ct0, sl0, e0, lk0, hc0⟩ := FoI.ex
  subst e0
  obtain ⟨oc1, od1, kV1, dc1, pm1, an1, cd1, ct1, sl1, e1, lk1, hc1⟩ := FoP.ex
  subst e1
  obtain ⟨oc2, od2, kV2, dc2, pm2, an2, cd2, ct2, sl2, e2, lk2, hc2⟩ := FoM.ex
  subst e2
  obtain ⟨oc3, od3, kV3, dc3, pm3, an3, cd3, ct3, sl3, e3, lk3, hc3⟩ := FoR.ex
  subst e3
  have oIni := ok_oinit (P := P) (w := w) (base := base) FoI S B zS gM LO LM okCk b3 G3 E3 (StX.bind_star1 (B := fun us => bindArgs (PySem.W.fnOf "__init__" "Order.__init__" (defArgs (Od.ometh 0)) (defBody (Od.ometh 0)) (defScope (Od.ometh 0)) .none kV0 dc0 pm0 an0 cd0 ct0) ⟨us, []⟩) (p1 := "self") (pv := "pairs") (fun a => rfl) (fun a r rs => rfl))
  have oOf := ok_oof (P := P) (w := w) (base := base) FoO gO mkO oIni okRw b2 G2 E2
  have oLen := ok_olen (P := P) (w := w) (base := base) FoL S B
  have oIter := ok_oiter (P := P) (w := w) (base := base) FoT S zI
  have oEq := ok_oeq (P := P) (w := w) (base := base) FoE S SI B gO
  have r : ClX.CRead K (He.ga K "Order") (.type "type") := Hk.readB_ok (T.ex 7 (b := EX7) rfl)
  have okX := ok_other (P := P) (w := w) (base := base) F4 S SI B gO
  have oAdd := ok_oadd (P := P) (w := w) (base := base) FoA S gO okX b4 G4 E4 r CoO oOf BoO
  have oSub := ok_osub (P := P) (w := w) (base := base) FoS S gO okX b4 G4 E4 r CoO oOf BoO
  have oAnd := ok_oand (P := P) (w := w) (base := base) FoD S gO okX b4 G4 E4 r CoO oOf BoO
  have oLe := ok_ole (P := P) (w := w) (base := base) FoQ S zL okX b4 G4 E4
  have oInv := ok_oinv (P := P) (w := w) (base := base) FoV S gO r CoO oOf BoO
  have oPl := ok_oplace (P := P) (w := w) (base := base) (mg := mg) FoP S
  have oMv := ok_omoved (P := P) (w := w) (base := base) FoM S B gO okI bd_I G_I E_I r CoO oOf BoO
  have oRd := ok_oredA (P := P) (w := w) (base := base) FoR S gO okRw b2 G2 E2 okCA b3 G3 E3 r CoO oOf BoO
  have kP : KBinds K (PySem.W.fnOf "place" "Order.place" (defArgs (Od.ometh 6)) (defBody (Od.ometh 6)) (defScope (Od.ometh 6)) .none kV1 dc1 pm1 an1 cd1 ct1) ["self", "pair"] ["pair"] kwP kwP := ⟨fun s us ws X' hl => match us, ws, hl with | [_], [_], _ => .of_eq rfl, fun {vs us zs ws} r1 r2 => by
    cases r1 with
    | nil => exact .nil
    | cons x1 x2 =>
      cases x2 with
      | cons _ _ => cases r2 <;> exact .nil
      | nil =>
        cases r2 with
        | nil => exact .nil
        | cons y1 y2 =>
          cases y2 with
          | cons _ _ => exact .nil
          | nil => exact .cons x1 (.cons y1 .nil)⟩
  have kM : KBinds K (PySem.W.fnOf "moved" "Order.moved" (defArgs (Od.ometh 7)) (defBody (Od.ometh 7)) (defScope (Od.ometh 7)) .none kV2 dc2 pm2 an2 cd2 ct2) ["self", "pair", "k"] ["k", "pair"] kwM kwM := ⟨fun s us ws X' hl => match us, ws, hl with | [_], [_, _], _ => .of_eq rfl, fun {vs us zs ws} r1 r2 => by
    cases r1 with
    | nil => exact .nil
    | cons x1 x2 =>
      cases x2 with
      | cons _ _ => cases r2 <;> exact .nil
      | nil =>
        cases r2 with
        | nil => exact .nil
        | cons y1 y2 =>
          cases y2 with
          | nil => exact .nil
          | cons y3 y4 =>
            cases y4 with
            | cons _ _ => exact .nil
            | nil => exact .cons x1 (.cons y3 (.cons y1 .nil))⟩
  have kR : KBinds K (PySem.W.fnOf "reduced" "Order.reduced" (defArgs (Od.ometh 13)) (defBody (Od.ometh 13)) (defScope (Od.ometh 13)) .none kV3 dc3 pm3 an3 cd3 ct3) ["self", "pairs"] ["pairs"] kwP kwP := ⟨fun s us ws X' hl => match us, ws, hl with | [_], [_], _ => .of_eq rfl, fun {vs us zs ws} r1 r2 => by
    cases r1 with
    | nil => exact .nil
    | cons x1 x2 =>
      cases x2 with
      | cons _ _ => cases r2 <;> exact .nil
      | nil =>
        cases r2 with
        | nil => exact .nil
        | cons y1 y2 =>
          cases y2 with
          | cons _ _ => exact .nil
          | nil => exact .cons x1 (.cons y1 .nil)⟩
  have MQ : OrdQ P w K mg base (He.ga K "Order") (He.ga K "BadOrder") (He.ga K "TooMany") := { S := S, SI := SI, gO := gO, r := r, pO := _, fO := _, dO := _, cO := CoO, of := oOf, ofB := BoO, fG := _, mkC := mkO, gi := oIni, fN := _, dN := _, len := ⟨MoL.1, MoL.2, oLen, BoL⟩, fI := _, dI := _, itA := MoT.1, itN := MoT.2, it := oIter, itB := BoT, fE := _, dE := _, eq := ⟨MoE.1, MoE.2, oEq, BoE⟩, ne := of_decide_eq_true (T.ex 8 (b := EX8) rfl), mro := q4, first := (T.ex 9 (b := EX9) rfl), fA := _, dA := _, add := ⟨MoA.1, MoA.2, oAdd, BoA⟩, fS := _, dS := _, sub := ⟨MoS.1, MoS.2, oSub, BoS⟩, fD := _, dD := _, and_ := ⟨MoD.1, MoD.2, oAnd, BoD⟩, fL := _, dL := _, le := ⟨MoQ.1, MoQ.2, oLe, BoQ⟩, fV := _, dV := _, inv := ⟨MoV.1, MoV.2, oInv, BoV⟩, nS := (let z := Hk.noInB_ok (T.ex 11 (b := EX11) rfl); ⟨z.1, z.2.1, z.2.2⟩), nD := (let z := Hk.noInB_ok (T.ex 12 (b := EX12) rfl); ⟨z.1, z.2.1, z.2.2⟩) }
  have MW : MethQ P w K mg base (He.ga K "Order") := { fP := _, dP := _, mP := MoP, place := oPl, bP := BoP, kP := kP, fM := _, dM := _, mM := MoM, moved := oMv, bM := BoM, kM := kM, fR := _, dR := _, mR := MoR, reduced := oRd, bR := BoR, kR := kR }
  -- the law's own
  have dDraw := K19.ok_draw (P := P) (w := w) (base := base) F6 T3
  have dPick := K19.ok_pick (P := P) (w := w) (base := base) F7 T3 dDraw b6 G6 E6
  have dMix := ok_mixed (P := P) (w := w) (base := base) F8 T3 zL dDraw b6 G6 E6
  have dRow := ok_rowO (P := P) (w := w) (base := base) F9 T3 dDraw b6 G6 E6 dMix b8 G8 E8
  have dJoin := ok_joined (P := P) (w := w) (base := base) F10 B zL MQ gF gx_O bx_O u13_O (of_decide_eq_true (T.ex 10 (b := EX10) rfl))
  have dWith := ok_within (P := P) (w := w) (base := base) (mg := mg) F11 B
  have dBound := ok_bound (P := P) (w := w) (base := base) F12 MQ
  have dNear := ok_near (P := P) (w := w) (base := base) F13 ⟨_, _, dDraw, b6, G6, E6⟩ ⟨_, _, dMix, b8, G8, E8⟩ ⟨_, _, dRow, b9, G9, E9⟩
  have dSign := ok_signs (P := P) (w := w) (base := base) F14 B zL zP MQ ⟨_, _, dJoin, b10, G10, E10⟩ ⟨_, _, dBound, b12, G12, E12⟩ ⟨_, _, dWith, b11, G11, E11⟩
  have dPlac := ok_places (P := P) (w := w) (base := base) F15 B zL zT zR zP MQ MW ⟨_, _, dDraw, b6, G6, E6⟩ ⟨_, _, dPick, b7, G7, E7⟩ ⟨_, _, dMix, b8, G8, E8⟩
  exact ok_lawO F16 B zR MQ ⟨_, _, K19.ok_pen (P := P) (w := w) (base := base) F5 T3, b5, G5, E5⟩ ⟨_, _, dRow, b9, G9, E9⟩ ⟨_, _, dNear, b13, G13, E13⟩ ⟨_, _, dSign, b14, G14, E14⟩ ⟨_, _, dPlac, b15, G15, E15⟩
theorem walk {q : Program} {loose : List Str} {XP : (Str → Option Value) → Heap → Prop} {as : List Addr} :
    PySem.W.WalkO q loose XP (Hk.hk as FA FN EX).says R.toRowW (HandSHeadRun.topDef R.prog 63) [] (fun f vs => PySem.call f vs) := by
  refine L2.walk_ofE (l := PySem.Challenge.rw_filledrow_k19_orders_reckoned) (n := 63) (k := 10) (x := "script") (CX := CX0) rfl (by decide) (by kernel_rfl) ⟨rfl, by decide, by decide⟩ ?F (fun _ _ _ _ z => z)
  intro w mg fa h Y G hmg0
  obtain ⟨K, KX, c⟩ := Y
  have hmg : mg ("law" : Str) = some (.ref fa) := by
    have e : (HandSHeadRun.topDef R.prog 63).name = ("law" : Str) := by kernel_rfl
    rw [← e]
    exact hmg0
  obtain ⟨fd, hb, hF⟩ := all_mk (P := (PySem.Challenge.rw_filledrow_k19_orders_reckoned).prog) (w := w) KX G hmg c
  exact ⟨K, fd, spLawO K, KX, hb, fun H a ns hl _ hS => ⟨a, ns, rfl, hS, hl, fun _ => rfl⟩, hF⟩
end Od

set_option Elab.async false
set_option linter.all false
open PySem PySem.W PyProof.Rows
set_option maxRecDepth 100000 in
set_option maxHeartbeats 0 in
theorem PySem.Challenge.cw_filledrow_k19_orders_reckoned_holds : PySem.Challenge.rw_filledrow_k19_orders_reckoned.Holds := by
  w_on; o_law
  refine HandSHeadRun.head_any (r := OpenLaw.row PySem.Challenge.rw_filledrow_k19_orders_reckoned) (q := Hd.q) (H := Hk.hk Hd.as Hd.FA Hd.FN Hd.EX) (M := 15538) (loose := Hd.loose) (d := HandSHeadRun.topDef (OpenLaw.row PySem.Challenge.rw_filledrow_k19_orders_reckoned).prog 63) (kwd := []) Hk.ob_eq
    (by kernel_rfl) (fun s => by kernel_rfl) (Hk.RunEqOf Hd.runA Hd.runB Hd.runC Hd.runD) (by kernel_rfl) (by kernel_rfl) (by kernel_rfl) (by rfl) (by first | assumption | decide +kernel) (by decide +kernel) ⟨rfl, rfl, rfl, rfl, rfl, by decide +kernel⟩ ?hw ?hc
  case hw => w_witness2
  case hc => exact Od.walk

