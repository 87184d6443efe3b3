import PyProof.Rows.All
import Wide.All
import OpenK.AllK
import Wide.FinOn
import HandS.Base
import HandS.Call
import HandS.List
import HandS.Ends
import HandS.Words
import HandS.WordsList
import PySem.Challenge.RW_filledrow_k08_texts_of_tables
import PyProof.NoPylong
import HandS.IsInst
import HandS.StrMore
import HandS.Text
import HandS.Flow
import HandS.Defaults
import HandS.Exc
import HandS.ForMost
import HandS.ExcOwn
import HandS.ExcInit
import HandS.ExcIs
import HandS.ExcField
import HandS.ExcValue
import HandS.RaiseMore
import PyProof.ReprRoads
import PyProof.CallFns
import KE.IntTextLaws
import HandS.Style
import HandS.Star
import HandS.Codes
import PyProof.Rows.RegStrFacts
import PyProof.Rows.StrJoinMade
import HandS.Walk
import HandS.Iter
import HandS.Comp
import HandS.DictComp
import PyProof.DictFindH
import KE.KEqDict
import PyProof.Rows.StrMeet
import HandS.Conv
import HandS.More
import HandS.ClsMeth
import HandS.Sort
import HandS.SortKw
import KE.SortData
import PyProof.StrLawsRepr
import KE.KCallOwn
import KE.KOpsOwn
import KE.KOwnIter
import HandS.Records
import OpenK.KOps
import KE.KFmtOwn
import PyProof.ListNew
import PyProof.Conv_bool
import HandS.IterVal
import PyProof.WalksMore
import HandS.OwnIter
import PyProof.FitsReplace
import HandS.Lambda
import PyProof.StrLawsChain
import HandS.Wide
import HandS.WordsExc
import HandS.Steps
import PyProof.StrBlock2
import HandS.EndOwn
set_option Elab.async false
set_option linter.all false
set_option maxRecDepth 100000
set_option maxHeartbeats 4000000
namespace K06
open PySem PySem.Spec PyProof.Rows L2
def top (i : Nat) : Stmt := PySem.Challenge.pw_filledrow_k08_texts_of_tables.main.body.getD i (.Pass ⟨0, 0, 0, 0⟩)
abbrev sPen : Stmt := top 38
abbrev sDraw : Stmt := top 39
abbrev sPick : Stmt := top 40
/-! ### the pen -/
/-- the pen at p: its cells ns at q, how many were drawn, what is left of a great one -/
structure Pen (H : Hp) (p q : Addr) (ns : List Int) (s g : Int) : Prop where
  p : H p = some (.lst [.ref q, .int s, .int g])
  q : H q = some (.lst (ns.map V.int))
theorem Pen.ne {H : Hp} {p q : Addr} {ns : List Int} {s g : Int} (x : Pen H p q ns s g) : p ≠ q := ne_of x.p x.q (by
  intro z
  cases ns with
  | nil => cases z
  | cons a r => cases z)
/-- all stands but at p -/
def But (p : Addr) (H H' : Hp) : Prop := ∀ b o, H b = some o → b ≠ p → H' b = some o
def spPen (K : PySem.W.Frag) : Sp := fun vs H Q _ => ∃ (a : Addr) (ns : List Int), vs = [.ref a] ∧ SqL K H a (ns.map V.int) ∧ ns.length ≤ 63 ∧
  ∀ (p q : Addr) (ms : List Int) (H' : Hp), ms.length ≤ 63 → Pen H' p q ms 0 0 → (∀ b o, H b = some o → H' b = some o) → Q (.ref p) H'
def spDraw : Sp := fun vs H Q _ => ∃ (p q : Addr) (ns : List Int) (s g m : Int), vs = [.ref p, .int m] ∧ Pen H p q ns s g ∧ ns.length ≤ 63 ∧ 0 ≤ s ∧ s < 100000 ∧ 0 < m ∧ m ≤ 10 ^ 30 ∧
  ∀ (k s' g' : Int) (H' : Hp), 0 ≤ k → k < m → s ≤ s' → s' ≤ s + 1 → Pen H' p q ns s' g' → But p H H' → Q (.int k) H'
/-- the built-ins that are still themselves -/
structure Blt (mg : Str → Option Value) : Prop where
  int : mg "int" = none
  len : mg "len" = none
  abs : mg "abs" = none
  lst : mg "list" = none
section
variable {P : Program} {w : World} {K : PySem.W.Frag} {mg : Str → Option Value} {base : Heap} {f : Addr} {fd : FuncData}
theorem scPen : FnScope ["script"] ["script"] (defScope sPen) := ⟨rfl, rfl, rfl, by decide +kernel, rfl, by decide +kernel, by decide +kernel⟩
theorem ints_cut : ∀ (ns : List Int) (lo hi : Option Int), ∃ ms : List Int, cutV (ns.map V.int) lo hi = ms.map V.int ∧ ms.length ≤ ns.length := by
  intro ns lo hi
  refine ⟨(ns.drop (HT.sIx (ns.map V.int).length 0 lo)).take (HT.sIx (ns.map V.int).length (ns.map V.int).length hi - HT.sIx (ns.map V.int).length 0 lo), ?_, ?_⟩
  · unfold cutV
    rw [List.map_take, List.map_drop]
  · rw [List.length_take, List.length_drop]
    omega
theorem ok_pen (F : Fun K "_law_pen" "_law_pen" sPen f fd) (T : Blt mg) : FnOk P w K mg base CX0 1 f fd ["script"] (spPen K) := by
  refine F.ok scPen (fun vs H Q E h => ?_) (fun cdv A outer s H vs Q E hr h => ?_)
  · obtain ⟨a, ns, rfl, _⟩ := h
    rfl
  · obtain ⟨a, ns, rfl, hS, hl, k⟩ := h
    refine ⟨_, pss_one (ps_ret (pe_lst (pa_cons (pe_callTy call_list_of (by rfl) T.lst (by decide +kernel) (pa_cons (pe_slice sl_list (pv 0) po_none (po_some pe_int)) pa_nil)) (pa_cons pe_int (pa_cons pe_int pa_nil))))), ?_⟩
    obtain ⟨ms, e, hm⟩ := ints_cut ns none (some 63)
    refine ⟨_, rfl, _, rfl, a, _, rfl, hS, fun p hp => ?_⟩
    rw [e]
    refine ⟨p, _, rfl, .inl (SqL.of upd_same), fun l hl' => ⟨by show 3 ≤ sizeLine; decide, fun r hr' => ?_⟩⟩
    have nl : l ≠ p := fun z => by
      rw [z, upd_same] at hl'
      cases hl'
    have nr : r ≠ l := fun z => by
      rw [z, upd_same] at hr'
      cases hr'
    refine k r l ms _ (by omega) ⟨upd_same, by rw [upd_ne nr.symm, upd_same]⟩ fun b o z => ?_
    have z1 : (upd H p (.lst (ms.map V.int))) b = some o := by rw [upd_ne (ne_of_none z hp)]; exact z
    have z2 : (upd (upd H p (.lst (ms.map V.int))) l (.lst (ms.map V.int))) b = some o := by rw [upd_ne (ne_of_none z1 hl')]; exact z1
    rw [upd_ne (ne_of_none z2 hr')]
    exact z2
end
end K06

set_option Elab.async false
set_option linter.all false
set_option maxRecDepth 100000
set_option maxHeartbeats 4000000
namespace K06
open PySem PySem.Spec PyProof.Rows L2
theorem scDraw : FnScope ["pen", "many", "digit", "turn", "drawn", "great", "mixed"] ["pen", "many"] (defScope sDraw) := ⟨rfl, rfl, rfl, by decide +kernel, rfl, by decide +kernel, by decide +kernel⟩
theorem op_fdivP {X : Cx} : OpR X (binaryOp .FloorDiv) (rI (fun _ j => 0 < j ∧ j.natAbs.log2 < 9000) fun i j => .int (i.fdiv j)) := opI fun i j _ _ _ _ _ hc q => by
  have h1 : (0 : Int) < j := hc.1
  exact floordiv_int (by omega) q (.inl (PyProof.noPylong_of_log2 hc.2))
theorem log30 {m : Int} (h0 : 0 < m) (h1 : m ≤ 10 ^ 30) : m.natAbs.log2 < 9000 := Nat.lt_of_lt_of_le (PySem.Flt.log2_lt_of (k := 100) (by decide) (by
  have : (10 : Int) ^ 30 < 2 ^ 100 := by decide
  omega)) (by decide)
theorem fm (i : Int) {m : Int} (h : 0 < m) : 0 ≤ i.fmod m ∧ i.fmod m < m := ⟨Int.fmod_nonneg_of_pos i h, Int.fmod_lt_of_pos i h⟩
theorem dp_ints {K : PySem.W.Frag} {H : Hp} : ∀ ns : List Int, DpAll K H (ns.map V.int) (ns.map PyData.int)
  | [] => .nil
  | n :: r => .cons (.int n) (dp_ints r)
theorem lay_ints : ∀ ns : List Int, PyData.canLayAll0 (ns.map PyData.int) = true
  | [] => rfl
  | n :: r => by
    show (PyData.canLay0 (.int n) && PyData.canLayAll0 (r.map PyData.int)) = true
    rw [lay_ints r]
    rfl
theorem deep_ints : ∀ ns : List Int, PyData.depthAll (ns.map PyData.int) ≤ 1
  | [] => Nat.zero_le _
  | n :: r => by
    have := deep_ints r
    show max (PyData.depth (.int n)) (PyData.depthAll (r.map PyData.int)) ≤ 1
    have e : PyData.depth (.int n) = 0 := rfl
    omega
theorem shaped_ints (ns : List Int) : SeqAt.shaped (.list (ns.map PyData.int)) = true := by
  have h1 : PyData.canLay0 (.list (ns.map PyData.int)) = true := lay_ints ns
  have h2 : PyData.depth (.list (ns.map PyData.int)) ≤ 64 := by
    have := deep_ints ns
    show PyData.depthAll (ns.map PyData.int) + 1 ≤ 64
    omega
  unfold SeqAt.shaped
  rw [h1, decide_eq_true h2]
  rfl
theorem eqv_none (ns : List Int) : PyData.eqv (.list (ns.map PyData.int)) (.list []) = ns.isEmpty := by
  cases ns <;> rfl
section
variable {P : Program} {w : World} {K : PySem.W.Frag} {mg : Str → Option Value} {base : Heap} {f : Addr} {fd : FuncData}
theorem ok_draw (F : Fun K "_law_draw" "_law_draw" sDraw f fd) (T : Blt mg) : FnOk P w K mg base CX0 1 f fd ["pen", "many"] spDraw := by
  refine F.ok scDraw (fun vs H Q E h => ?_) (fun cdv A outer s H vs Q E hr h => ?_)
  · obtain ⟨p, q, ns, s, g, m, rfl, _⟩ := h
    rfl
  · obtain ⟨p, q, ns, s, g, m, rfl, hP, hl, hs0, hs1, hm0, hm1, k⟩ := h
    have nd := scDraw.nd
    have hu : (cxOf CX0 P w K mg base ["pen", "many", "digit", "turn", "drawn", "great", "mixed"] "_law_draw" (defScope sDraw) f cdv A outer ‹Shared› H E).nox.A.units + 64 < cLine := by
      have z := hr.un
      show (A.deeper _).units + 64 < cLine
      omega
    refine ⟨_, pss_cons (ps_if (pt_cmpR op_gt (pe_ix ix_list (pv 0) pe_int (fun _ _ => rfl)) pe_int (nomark _))
        (pss_cons (ps_set (i := 2) nd rfl (Or.inl rfl) (pe_op op_modN (pe_callTy call_int1 (by rfl) T.int (by decide +kernel) (pa_cons (pe_ix ix_list (pv 0) pe_int (fun _ _ => rfl)) pa_nil)) (pv 1)))
          (pss_cons (ps_asg (pe_op op_fdivP (pe_callTy call_int1 (by rfl) T.int (by decide +kernel) (pa_cons (pe_ix ix_list (pv 0) pe_int (fun _ _ => rfl)) pa_nil)) (pv 1)) (pg_sub (pv 0) pe_int set_list))
            (pss_one (ps_ret (pv 2))))) pss_nil)
      (pss_cons (ps_set (i := 3) nd rfl (Or.inl rfl) (pe_ix ix_list (pv 0) pe_int (fun _ _ => rfl)))
      (pss_cons (ps_asg (pe_op op_add (pv 3) pe_int) (pg_sub (pv 0) pe_int set_list))
      (pss_cons (ps_set (i := 4) nd rfl (Or.inl rfl) (pe_op op_add (pe_op op_mul pe_int (pv 3)) pe_int))
      (pss_cons (ps_if (pt_cmpR (op_neD hu) (pe_ix ix_list (pv 0) pe_int (fun _ _ => rfl)) (pe_lst pa_nil) (nomark _))
        (pss_one (ps_set (i := 4) nd rfl (Or.inl rfl) (pe_ix ix_list (pe_ix ix_list (pv 0) pe_int (fun _ _ => rfl))
          (pe_op op_modN (pe_callTy call_int1 (by rfl) T.int (by decide +kernel) (pa_cons (pv 3) pa_nil)) (pe_callB call_len_seq (by rfl) T.len PySem.boot_len (pa_cons (pe_ix ix_list (pv 0) pe_int (fun _ _ => rfl)) pa_nil))) (fun _ _ => rfl)))) pss_nil)
      (pss_cons (ps_if (PW.pt (pw_and (pt_cmpR op_lt (pv 3) (pe_callB call_len_seq (by rfl) T.len PySem.boot_len (pa_cons (pe_ix ix_list (pv 0) pe_int (fun _ _ => rfl)) pa_nil)) (nomark _))
          (pw_and1 (pt_cmpR op_ge (pe_callB call_abs (by rfl) T.abs (by decide +kernel) (pa_cons (pv 4) pa_nil)) (pe_op op_pow pe_int pe_int) (nomark _)))))
        (pss_cons (ps_set (i := 5) nd rfl (Or.inl rfl) (pe_op op_add (pe_op op_mul pe_int (pe_op op_sub (pe_callB call_abs (by rfl) T.abs (by decide +kernel) (pa_cons (pv 4) pa_nil)) (pe_op op_pow pe_int pe_int)))
            (pe_callTy call_int1 (by rfl) T.int (by decide +kernel) (pa_cons (pe_cmpR op_lt (pv 4) pe_int (nomark _)) pa_nil))))
          (pss_cons (ps_asg (pe_op op_fdivP (pe_callTy call_int1 (by rfl) T.int (by decide +kernel) (pa_cons (pv 5) pa_nil)) (pv 1)) (pg_sub (pv 0) pe_int set_list))
            (pss_one (ps_ret (pe_op op_modN (pe_callTy call_int1 (by rfl) T.int (by decide +kernel) (pa_cons (pv 5) pa_nil)) (pv 1)))))) pss_nil)
      (pss_cons (ps_set (i := 6) nd rfl (Or.inl rfl) (pe_op op_modN (pe_callTy call_int1 (by rfl) T.int (by decide +kernel) (pa_cons (pe_op op_pow (pe_op op_add (pe_op op_add (pe_op op_modN (pe_callTy call_int1 (by rfl) T.int (by decide +kernel) (pa_cons (pv 4) pa_nil)) pe_int) (pe_op op_mul pe_int (pv 3))) pe_int) pe_int) pa_nil)) pe_int))
      (pss_cons (ps_set (i := 6) nd rfl (Or.inl rfl) (pe_op op_modN (pe_callTy call_int1 (by rfl) T.int (by decide +kernel) (pa_cons (pe_op op_pow (pe_op op_add (pe_op op_add (pe_op op_mul (pv 6) (pe_op op_add (pe_op op_mul pe_int (pv 3)) pe_int)) (pe_op op_mul (pe_op op_mul pe_int (pv 3)) (pv 3))) pe_int) pe_int) pa_nil)) pe_int))
      (pss_one (ps_ret (pe_op op_modN (pe_callTy call_int1 (by rfl) T.int (by decide +kernel) (pa_cons (pe_op op_fdivN (pv 6) pe_int) pa_nil)) (pv 1))))))))))), ?_⟩
    -- if pen[2] > 0
    refine ⟨_, rfl, p, _, 2, .int g, rfl, rfl, SqL.of hP.p, rfl, g, 0, rfl, rfl, _, rfl, ?_⟩
    refine ite2 (fun c => ?_) (fun c => ?_)
    · refine ⟨_, rfl, p, _, 2, .int g, rfl, rfl, SqL.of hP.p, rfl, .inl ⟨g, rfl, _, rfl, g, m, rfl, rfl, by omega, ?_⟩⟩
      refine ⟨_, rfl, p, _, 2, .int g, rfl, rfl, SqL.of hP.p, rfl, .inl ⟨g, rfl, _, rfl, g, m, rfl, rfl, ⟨hm0, log30 hm0 hm1⟩, ?_⟩⟩
      refine ⟨_, rfl, p, _, 2, 2, rfl, rfl, hP.p, rfl, ?_⟩
      refine ⟨_, rfl, k _ s (g.fdiv m) _ (fm g hm0).1 (fm g hm0).2 (Int.le_refl _) (by omega) ⟨upd_same, ?_⟩ fun b o e hb => ?_⟩
      · rw [upd_ne hP.ne.symm]
        exact hP.q
      · rw [upd_ne hb]
        exact e
    · -- spot = pen[1]; pen[1] = spot + 1; cell = ..
      refine ⟨_, rfl, p, _, 1, .int s, rfl, rfl, SqL.of hP.p, rfl, ?_⟩
      refine ⟨_, rfl, s, 1, rfl, rfl, ?_⟩
      refine ⟨_, rfl, p, _, 1, 1, rfl, rfl, hP.p, rfl, ?_⟩
      have hP1 : Pen (upd H p (.lst [.ref q, .int (s + 1), .int g])) p q ns (s + 1) g := ⟨upd_same, by rw [upd_ne hP.ne.symm]; exact hP.q⟩
      have hB1 : But p H (upd H p (.lst [.ref q, .int (s + 1), .int g])) := fun b o e hb => by rw [upd_ne hb]; exact e
      refine ⟨_, rfl, 51946, s, rfl, rfl, .inl ⟨by decide, by decide⟩, _, _, rfl, rfl, ?_⟩
      -- if pen[0] != []
      refine ⟨_, rfl, p, _, 0, .ref q, rfl, rfl, SqL.of hP1.p, rfl, by decide, fun l hl' => ?_⟩
      have hP2 : Pen (upd (upd H p (.lst [.ref q, .int (s + 1), .int g])) l (.lst [])) p q ns (s + 1) g :=
        ⟨by rw [upd_ne (ne_of_none hP1.p hl')]; exact hP1.p, by rw [upd_ne (ne_of_none hP1.q hl')]; exact hP1.q⟩
      have hB2 : But p H (upd (upd H p (.lst [.ref q, .int (s + 1), .int g])) l (.lst [])) := fun b o e hb => by
        rw [upd_ne (ne_of_none (hB1 b o e hb) hl')]
        exact hB1 b o e hb
      refine ⟨_, _, .lst (SqL.of hP2.q) (dp_ints ns), .lst (SqL.of upd_same) .nil, shaped_ints ns, rfl, _, rfl, ?_⟩
      rw [eqv_none]
      cases ns with
      | nil =>
        refine iteF ?_
        refine ⟨_, rfl, _, rfl, p, _, 0, .ref q, rfl, rfl, SqL.of hP2.p, rfl, q, _, rfl, .inl (SqL.of hP2.q), s, _, rfl, rfl, _, rfl, ?_⟩
        have e : decide (s < (((([] : List Int).map V.int).length : Nat) : Int)) = false := decide_eq_false (by show ¬ s < 0; omega)
        rw [e]
        refine iteF (iteF ?_)
        -- mixed = ..
        refine ⟨_, rfl, .inl ⟨51946 * s + 1548, rfl, ?_⟩⟩
        refine ⟨51946 * s + 1548, 2147483497, rfl, rfl, (show (2147483497 : Int) ≠ 0 by decide), ?_⟩
        refine ⟨_, rfl, 80986, s, rfl, rfl, .inl ⟨by decide, by decide⟩, ?_⟩
        refine ⟨_, _, rfl, rfl, _, _, rfl, rfl, ?_⟩
        have b1 := fm (51946 * s + 1548) (show (0 : Int) < 2147483497 by decide)
        refine ⟨_, 5, rfl, rfl, ⟨by decide, by decide, by omega⟩, .inl ⟨_, rfl, _, 2147483629, rfl, rfl, (show (2147483629 : Int) ≠ 0 by decide), ?_⟩⟩
        have b2 := fm ((Int.fmod (51946 * s + 1548) 2147483497 + 80986 * s + 1880) ^ (5 : Int).toNat) (show (0 : Int) < 2147483629 by decide)
        obtain ⟨y, hy⟩ : ∃ y, y = Int.fmod ((Int.fmod (51946 * s + 1548) 2147483497 + 80986 * s + 1880) ^ (5 : Int).toNat) 2147483629 := ⟨_, rfl⟩
        rw [← hy] at b2
        refine ⟨_, rfl, _, rfl, 2, s, rfl, rfl, .inl ⟨by decide, by decide⟩, _, _, rfl, rfl, y, _, congrArg V.int hy.symm, rfl, .inl ⟨by omega, by omega⟩, ?_⟩
        refine ⟨_, rfl, 84850, s, rfl, rfl, .inl ⟨by decide, by decide⟩, _, rfl, _, s, rfl, rfl, .inr ⟨by omega, by omega⟩, ?_⟩
        refine ⟨_, _, rfl, rfl, _, _, rfl, rfl, ?_⟩
        have b3 : 0 ≤ y * (2 * s + 962) ∧ y * (2 * s + 962) ≤ 2147483629 * 300000 := ⟨Int.mul_nonneg b2.1 (by omega), Int.mul_le_mul (by omega) (by omega) (by omega) (by decide)⟩
        have b4 : 0 ≤ 84850 * s * s ∧ 84850 * s * s ≤ 8485000000 * 100000 := ⟨Int.mul_nonneg (by omega) hs0, Int.mul_le_mul (by omega) (by omega) hs0 (by decide)⟩
        refine ⟨_, 3, rfl, rfl, ⟨by decide, by decide, by omega⟩, .inl ⟨_, rfl, _, 2147483563, rfl, rfl, (show (2147483563 : Int) ≠ 0 by decide), ?_⟩⟩
        refine ⟨_, rfl, _, 32, rfl, rfl, ⟨by decide, by decide⟩, .inl ⟨_, rfl, _, rfl, _, m, rfl, rfl, by omega, ?_⟩⟩
        exact k _ (s + 1) g _ (fm _ hm0).1 (fm _ hm0).2 (by omega) (Int.le_refl _) hP2 hB2
      | cons n0 r =>
        refine iteT ?_
        -- cell = pen[0][int(spot) % len(pen[0])]
        refine ⟨_, rfl, p, _, 0, .ref q, rfl, rfl, SqL.of hP2.p, rfl, ?_⟩
        refine ⟨_, rfl, .inl ⟨s, rfl, _, rfl, p, _, 0, .ref q, rfl, rfl, SqL.of hP2.p, rfl, q, _, rfl, .inl (SqL.of hP2.q), s, _, rfl, rfl, ?_, ?_⟩⟩
        · rw [List.length_map, List.length_cons]
          omega
        have hn : (0 : Int) < (((((n0 :: r) : List Int).map V.int).length : Nat) : Int) := by
          rw [List.length_map, List.length_cons]
          omega
        have b0 := fm s hn
        obtain ⟨c, hc⟩ : ∃ c : Int, atI ((n0 :: r).map V.int) (s.fmod ((((n0 :: r).map V.int).length : Nat) : Int)) = some (.int c) := by
          have hj : (s.fmod ((((n0 :: r).map V.int).length : Nat) : Int)).toNat < (n0 :: r).length := by
            rw [List.length_map] at b0 ⊢
            omega
          refine ⟨(n0 :: r)[(s.fmod ((((n0 :: r).map V.int).length : Nat) : Int)).toNat]'hj, at_of (j := (s.fmod ((((n0 :: r).map V.int).length : Nat) : Int)).toNat) (by omega) ?_⟩
          rw [List.getElem?_map, List.getElem?_eq_getElem hj]
          rfl
        refine ⟨q, _, _, .int c, rfl, rfl, SqL.of hP2.q, hc, ?_⟩
        -- if spot < len(pen[0]) and abs(cell) >= 10 ** 18
        refine ⟨_, rfl, _, rfl, p, _, 0, .ref q, rfl, rfl, SqL.of hP2.p, rfl, q, _, rfl, .inl (SqL.of hP2.q), s, _, rfl, rfl, _, rfl, ?_⟩
        refine ite2 (fun c1 => ?_) (fun c1 => iteF ?_)
        · refine ⟨_, rfl, c, rfl, 10, 18, rfl, rfl, ⟨by decide, by decide, by decide⟩, _, _, rfl, rfl, _, rfl, ?_⟩
          refine ite2 (fun c2 => ?_) (fun c2 => ?_)
          · -- great
            refine ⟨_, rfl, c, rfl, 10, 18, rfl, rfl, ⟨by decide, by decide, by decide⟩, _, _, rfl, rfl, 2, _, rfl, rfl, .inl ⟨by decide, by decide⟩, ?_⟩
            refine ⟨_, rfl, c, 0, rfl, rfl, .inr ⟨_, rfl, _, _, rfl, rfl, ?_⟩⟩
            refine ⟨_, rfl, .inl ⟨_, rfl, _, rfl, _, m, rfl, rfl, ⟨hm0, log30 hm0 hm1⟩, ?_⟩⟩
            refine ⟨_, rfl, p, _, 2, 2, rfl, rfl, hP2.p, rfl, ?_⟩
            refine ⟨_, rfl, .inl ⟨_, rfl, _, rfl, _, m, rfl, rfl, by omega, ?_⟩⟩
            refine k _ (s + 1) _ _ (fm _ hm0).1 (fm _ hm0).2 (by omega) (Int.le_refl _) ⟨upd_same, ?_⟩ fun b o e hb => ?_
            · rw [upd_ne hP2.ne.symm]
              exact hP2.q
            · rw [upd_ne hb]
              exact hB2 b o e hb
          · show tNext _ _ _
            -- mixed = ..
            refine ⟨_, rfl, .inl ⟨c, rfl, ?_⟩⟩
            refine ⟨c, 2147483497, rfl, rfl, (show (2147483497 : Int) ≠ 0 by decide), ?_⟩
            refine ⟨_, rfl, 80986, s, rfl, rfl, .inl ⟨by decide, by decide⟩, ?_⟩
            refine ⟨_, _, rfl, rfl, _, _, rfl, rfl, ?_⟩
            have b1 := fm (c) (show (0 : Int) < 2147483497 by decide)
            refine ⟨_, 5, rfl, rfl, ⟨by decide, by decide, by omega⟩, .inl ⟨_, rfl, _, 2147483629, rfl, rfl, (show (2147483629 : Int) ≠ 0 by decide), ?_⟩⟩
            have b2 := fm ((Int.fmod (c) 2147483497 + 80986 * s + 1880) ^ (5 : Int).toNat) (show (0 : Int) < 2147483629 by decide)
            obtain ⟨y, hy⟩ : ∃ y, y = Int.fmod ((Int.fmod (c) 2147483497 + 80986 * s + 1880) ^ (5 : Int).toNat) 2147483629 := ⟨_, rfl⟩
            rw [← hy] at b2
            refine ⟨_, rfl, _, rfl, 2, s, rfl, rfl, .inl ⟨by decide, by decide⟩, _, _, rfl, rfl, y, _, congrArg V.int hy.symm, rfl, .inl ⟨by omega, by omega⟩, ?_⟩
            refine ⟨_, rfl, 84850, s, rfl, rfl, .inl ⟨by decide, by decide⟩, _, rfl, _, s, rfl, rfl, .inr ⟨by omega, by omega⟩, ?_⟩
            refine ⟨_, _, rfl, rfl, _, _, rfl, rfl, ?_⟩
            have b3 : 0 ≤ y * (2 * s + 962) ∧ y * (2 * s + 962) ≤ 2147483629 * 300000 := ⟨Int.mul_nonneg b2.1 (by omega), Int.mul_le_mul (by omega) (by omega) (by omega) (by decide)⟩
            have b4 : 0 ≤ 84850 * s * s ∧ 84850 * s * s ≤ 8485000000 * 100000 := ⟨Int.mul_nonneg (by omega) hs0, Int.mul_le_mul (by omega) (by omega) hs0 (by decide)⟩
            refine ⟨_, 3, rfl, rfl, ⟨by decide, by decide, by omega⟩, .inl ⟨_, rfl, _, 2147483563, rfl, rfl, (show (2147483563 : Int) ≠ 0 by decide), ?_⟩⟩
            refine ⟨_, rfl, _, 32, rfl, rfl, ⟨by decide, by decide⟩, .inl ⟨_, rfl, _, rfl, _, m, rfl, rfl, by omega, ?_⟩⟩
            exact k _ (s + 1) g _ (fm _ hm0).1 (fm _ hm0).2 (by omega) (Int.le_refl _) hP2 hB2
        · -- mixed = ..
          refine ⟨_, rfl, .inl ⟨c, rfl, ?_⟩⟩
          refine ⟨c, 2147483497, rfl, rfl, (show (2147483497 : Int) ≠ 0 by decide), ?_⟩
          refine ⟨_, rfl, 80986, s, rfl, rfl, .inl ⟨by decide, by decide⟩, ?_⟩
          refine ⟨_, _, rfl, rfl, _, _, rfl, rfl, ?_⟩
          have b1 := fm (c) (show (0 : Int) < 2147483497 by decide)
          refine ⟨_, 5, rfl, rfl, ⟨by decide, by decide, by omega⟩, .inl ⟨_, rfl, _, 2147483629, rfl, rfl, (show (2147483629 : Int) ≠ 0 by decide), ?_⟩⟩
          have b2 := fm ((Int.fmod (c) 2147483497 + 80986 * s + 1880) ^ (5 : Int).toNat) (show (0 : Int) < 2147483629 by decide)
          obtain ⟨y, hy⟩ : ∃ y, y = Int.fmod ((Int.fmod (c) 2147483497 + 80986 * s + 1880) ^ (5 : Int).toNat) 2147483629 := ⟨_, rfl⟩
          rw [← hy] at b2
          refine ⟨_, rfl, _, rfl, 2, s, rfl, rfl, .inl ⟨by decide, by decide⟩, _, _, rfl, rfl, y, _, congrArg V.int hy.symm, rfl, .inl ⟨by omega, by omega⟩, ?_⟩
          refine ⟨_, rfl, 84850, s, rfl, rfl, .inl ⟨by decide, by decide⟩, _, rfl, _, s, rfl, rfl, .inr ⟨by omega, by omega⟩, ?_⟩
          refine ⟨_, _, rfl, rfl, _, _, rfl, rfl, ?_⟩
          have b3 : 0 ≤ y * (2 * s + 962) ∧ y * (2 * s + 962) ≤ 2147483629 * 300000 := ⟨Int.mul_nonneg b2.1 (by omega), Int.mul_le_mul (by omega) (by omega) (by omega) (by decide)⟩
          have b4 : 0 ≤ 84850 * s * s ∧ 84850 * s * s ≤ 8485000000 * 100000 := ⟨Int.mul_nonneg (by omega) hs0, Int.mul_le_mul (by omega) (by omega) hs0 (by decide)⟩
          refine ⟨_, 3, rfl, rfl, ⟨by decide, by decide, by omega⟩, .inl ⟨_, rfl, _, 2147483563, rfl, rfl, (show (2147483563 : Int) ≠ 0 by decide), ?_⟩⟩
          refine ⟨_, rfl, _, 32, rfl, rfl, ⟨by decide, by decide⟩, .inl ⟨_, rfl, _, rfl, _, m, rfl, rfl, by omega, ?_⟩⟩
          exact k _ (s + 1) g _ (fm _ hm0).1 (fm _ hm0).2 (by omega) (Int.le_refl _) hP2 hB2
end
end K06

set_option Elab.async false
set_option linter.all false
set_option maxRecDepth 100000
set_option maxHeartbeats 4000000
/-! What the law draws: one of some things, an amount. -/
namespace K06
open PySem PySem.Spec PyProof.Rows L2
def spPick : Sp := fun vs H Q _ => ∃ (p q : Addr) (ns : List Int) (s g : Int) (a : Addr) (xs : List V), vs = [.ref p, .ref a] ∧ Pen H p q ns s g ∧ ns.length ≤ 63 ∧ 0 ≤ s ∧ s < 100000 ∧ H a = some (.lst xs) ∧ a ≠ p ∧ 0 < xs.length ∧ xs.length < 100000 ∧
  ∀ (v : V) (s' g' : Int) (H' : Hp), v ∈ xs → s ≤ s' → s' ≤ s + 1 → Pen H' p q ns s' g' → But p H H' → Q v H'
theorem scPick : FnScope ["pen", "some"] ["pen", "some"] (defScope sPick) := ⟨rfl, rfl, rfl, by decide +kernel, rfl, by decide +kernel, by decide +kernel⟩
section
variable {P : Program} {w : World} {K : PySem.W.Frag} {mg : Str → Option Value} {base : Heap} {f fD fP : Addr} {fd fdD fdP : FuncData}
theorem ok_pick (F : Fun K "_law_pick" "_law_pick" sPick f fd) (T : Blt mg) (G : FnOk P w K mg base CX0 1 fD fdD ["pen", "many"] spDraw) (b : Binds K fdD ["pen", "many"] []) (gD : mg "_law_draw" = some (.ref fD)) (kD : PySem.W.keepIn K (.ref fD) = true) :
    FnOk P w K mg base CX0 2 f fd ["pen", "some"] spPick := by
  refine F.ok scPick (fun vs H Q E h => ?_) (fun cdv A outer s H vs Q E hr h => ?_)
  · obtain ⟨p, q, ns, s, g, a, xs, rfl, _⟩ := h
    rfl
  · obtain ⟨p, q, ns, s, g, a, xs, rfl, hP, hl, h0, h1, ha, nap, x0, x1, k⟩ := h
    refine ⟨_, pss_one (ps_ret (pe_ix ix_list (pv 1) (pe_call G hr (by rfl) gD kD b .nil pass0 (pa_cons (pv 0) (pa_cons (pe_callB call_len_seq (by rfl) T.len PySem.boot_len (pa_cons (pv 1) pa_nil)) pa_nil))) (fun _ _ => rfl))), ?_⟩
    refine ⟨_, rfl, _, rfl, _, rfl, a, xs, rfl, .inl (SqL.of ha), p, q, ns, s, g, _, rfl, hP, hl, h0, h1, by omega, by omega, fun n s' g' H' n0 n1 s0 s1 hP' hB => ?_⟩
    have hj : n.toNat < xs.length := by omega
    exact ⟨a, xs, n, xs[n.toNat], rfl, rfl, SqL.of (hB a _ ha nap), at_of (j := n.toNat) (by omega) (List.getElem?_eq_getElem hj), k _ s' g' H' (List.getElem_mem hj) s0 s1 hP' hB⟩
end
end K06

set_option Elab.async false
set_option linter.all false
set_option maxRecDepth 100000
set_option maxHeartbeats 4000000
/-! The small defs of the program that ask of which kind a value is. -/
namespace Fk
open PySem PySem.Spec PyProof.Rows L2
def top (i : Nat) : Stmt := PySem.Challenge.pw_filledrow_k08_texts_of_tables.main.body.getD i (.Pass ⟨0, 0, 0, 0⟩)
abbrev sInteger : Stmt := top 14
abbrev sAmount : Stmt := top 15
abbrev sName : Stmt := top 16
abbrev sNames : Stmt := top 19
abbrev sAmounts : Stmt := top 30
/-- the built-ins that are still themselves, and the constants -/
structure Blt (mg : Str → Option Value) : Prop where
  isi : mg "isinstance" = none
  int : mg "int" = none
  bool : mg "bool" = none
  str : mg "str" = none
  len : mg "len" = none
/-- is_integer(value, least) -/
def spInteger (K : PySem.W.Frag) : Sp := fun vs H Q _ => ∃ (v : V) (n : Int), vs = [v, .int n] ∧
  ((∃ i, v = .int i ∧ Q (.bl (decide (n ≤ i))) H) ∨ (∃ b, v = .bl b ∧ Q (.bl false) H) ∨ (∃ t, TyX K H v (.type t) ∧ kitB t "int" = some false ∧ Q (.bl false) H))
def spAmount (K : PySem.W.Frag) : Sp := fun vs H Q _ => ∃ (v : V), vs = [v] ∧
  ((∃ i, v = .int i ∧ Q (.bl (decide (0 ≤ i))) H) ∨ (∃ b, v = .bl b ∧ Q (.bl false) H) ∨ (∃ t, TyX K H v (.type t) ∧ kitB t "int" = some false ∧ Q (.bl false) H))
/-- what a text is to be a name -/
def nameB (x : Str) : Bool := decide ((x.length : Int) ≤ 8) && !(inV (.str x) [.str "none", .str "self"]) && Txt.isascii x && Txt.isalpha x && Txt.islower x
def spName (K : PySem.W.Frag) : Sp := fun vs H Q _ => ∃ (v : V), vs = [v] ∧
  ((∃ x, v = .str x ∧ x.length ≤ sizeLine ∧ Q (.bl (nameB x)) H) ∨ (∃ t, TyX K H v (.type t) ∧ kitB t "str" = some false ∧ Q (.bl false) H))
theorem scInteger : FnScope ["value", "least"] ["value", "least"] (defScope sInteger) := ⟨rfl, rfl, rfl, by decide +kernel, rfl, by decide +kernel, by decide +kernel⟩
theorem scAmount : FnScope ["value"] ["value"] (defScope sAmount) := ⟨rfl, rfl, rfl, by decide +kernel, rfl, by decide +kernel, by decide +kernel⟩
theorem scName : FnScope ["value"] ["value"] (defScope sName) := ⟨rfl, rfl, rfl, by decide +kernel, rfl, by decide +kernel, by decide +kernel⟩
section
variable {P : Program} {w : World} {K : PySem.W.Frag} {mg : Str → Option Value} {base : Heap} {f fI fN : Addr} {fd fdI fdN : FuncData}
theorem ok_integer (F : FunD K "is_integer" "is_integer" (defArgs sInteger) (defBody sInteger) (defScope sInteger) [.non] [] f fd) (T : Blt mg) : FnOk P w K mg base CX0 1 f fd ["value", "least"] (spInteger K) := by
  refine F.ok (CX := CX0) scInteger (fun vs H Q E h => ?_) (fun cdv A outer s H vs Q E hr h => ?_)
  · obtain ⟨v, n, rfl, _⟩ := h
    rfl
  · obtain ⟨v, n, rfl, h⟩ := h
    refine ⟨_, PSs.nox (pss_one (ps_ret (pe_and (pe_callB call_isi (by rfl) T.isi (by decide +kernel) (pa_cons (pv 0) (pa_cons (pe_bltn (v := .ty "int") (by rfl) T.int (by decide +kernel) rfl) pa_nil)))
      (pe_and (pe_not (pe_callB call_isi (by rfl) T.isi (by decide +kernel) (pa_cons (pv 0) (pa_cons (pe_bltn (v := .ty "bool") (by rfl) T.bool (by decide +kernel) rfl) pa_nil)))) (pe_one (pe_or (pe_cmpR op_isN (pv 1) pe_non (nomark _)) (pe_one (pe_cmpR op_ge (pv 0) (pv 1) (nomark _))))))))), ?_⟩
    rcases h with ⟨i, rfl, q⟩ | ⟨b, rfl, q⟩ | ⟨t, ty, e, q⟩
    · exact ⟨_, rfl, _, _, _, _, true, rfl, .ty _, .base (.int i), kit_ty (by decide +kernel), _, rfl, _, rfl, _, _, _, _, false, rfl, .ty _, .base (.int i), kit_ty (by decide +kernel), _, rfl, true, rfl, _, rfl, rfl, _, rfl, _, rfl, _, rfl, _, _, rfl, rfl, q⟩
    · exact ⟨_, rfl, _, _, _, _, true, rfl, .ty _, .base (.bl b), kit_ty (by decide +kernel), _, rfl, _, rfl, _, _, _, _, true, rfl, .ty _, .base (.bl b), kit_ty (by decide +kernel), _, rfl, false, rfl, q⟩
    · exact ⟨_, rfl, _, _, _, _, false, rfl, .ty _, ty, kit_ty e, _, rfl, q⟩
theorem ok_amount (F : Fun K "is_amount" "is_amount" sAmount f fd) (G : FnOk P w K mg base CX0 1 fI fdI ["value", "least"] (spInteger K)) (b : Binds K fdI ["value", "least"] []) (gI : mg "is_integer" = some (.ref fI)) (kI : PySem.W.keepIn K (.ref fI) = true) :
    FnOk P w K mg base CX0 2 f fd ["value"] (spAmount K) := by
  refine F.ok scAmount (fun vs H Q E h => ?_) (fun cdv A outer s H vs Q E hr h => ?_)
  · obtain ⟨v, rfl, _⟩ := h
    rfl
  · obtain ⟨v, rfl, h⟩ := h
    refine ⟨_, pss_one (ps_ret (pe_call G hr (by rfl) gI kI b .nil pass0 (pa_cons (pv 0) (pa_cons pe_int pa_nil)))), ?_⟩
    exact ⟨_, rfl, v, 0, rfl, h⟩
theorem ok_name (F : Fun K "is_name" "is_name" sName f fd) (T : Blt mg) {tL tN : Nat} {aN : Addr} (gL : mg "LONGEST_NAME" = some (.int 8 tL)) (gN : mg "NO_NAMES" = some (.ref aN)) (hN : ∀ H, SqT K H aN [.str "none", .str "self"]) :
    FnOk P w K mg base CX0 1 f fd ["value"] (spName K) := by
  refine F.ok scName (fun vs H Q E h => ?_) (fun cdv A outer s H vs Q E hr h => ?_)
  · obtain ⟨v, rfl, _⟩ := h
    rfl
  · obtain ⟨v, rfl, h⟩ := h
    refine ⟨_, pss_cons (ps_if (PW.pt (pw_or (pt_not (pt_val (pe_callB call_isi (by rfl) T.isi (by decide +kernel) (pa_cons (pv 0) (pa_cons (pe_bltn (v := .ty "str") (by rfl) T.str (by decide +kernel) rfl) pa_nil)))))
        (pw_or (pt_cmpR op_gt (pe_callB call_len_str (by rfl) T.len PySem.boot_len (pa_cons (pv 0) pa_nil)) (pe_glob (v := .int 8) (by rfl) gL ⟨_, rfl⟩) (nomark _)) (pw_or1 (pt_cmpR op_in_seq (pv 0) (pe_glob (v := .ref aN) (by rfl) gN rfl) (by rfl))))))
        (pss_one (ps_ret pe_bl)) pss_nil)
      (pss_one (ps_ret (pe_and (pe_bm0 PySem.F.plainAttrs_str PySem.F.slot_str_isascii PySem.F.type_str_isascii mt_isascii (pv 0)) (pe_and (pe_bm0 PySem.F.plainAttrs_str PySem.F.slot_str_isalpha PySem.F.type_str_isalpha mt_isalpha (pv 0)) (pe_one (pe_bm0 PySem.F.plainAttrs_str PySem.F.slot_str_islower PySem.F.type_str_islower mt_islower (pv 0))))))), ?_⟩
    rcases h with ⟨x, rfl, hx, q⟩ | ⟨t, ty, e, q⟩
    · refine ⟨_, rfl, _, _, _, _, true, rfl, .ty _, .base (.str x), kit_ty (by decide +kernel), _, rfl, ?_⟩
      refine ⟨_, rfl, x, rfl, hx, _, _, rfl, rfl, _, rfl, ?_⟩
      by_cases h8 : (8 : Int) < x.length
      · rw [decide_eq_true h8]
        have e : nameB x = false := by
          unfold nameB
          rw [decide_eq_false (by omega)]
          rfl
        rw [e] at q
        exact q
      · rw [decide_eq_false h8]
        refine ⟨_, rfl, aN, _, rfl, .inr (hN H), rfl, rfl, _, rfl, ?_⟩
        cases hn : inV (.str x) [.str "none", .str "self"] with
        | true =>
          have e : nameB x = false := by
            unfold nameB
            rw [hn]
            simp
          rw [e] at q
          exact q
        | false =>
          have e : nameB x = (Txt.isascii x && Txt.isalpha x && Txt.islower x) := by
            unfold nameB
            rw [hn, decide_eq_true (by omega)]
            simp
          rw [e] at q
          refine ⟨_, rfl, rfl, x, rfl, rfl, trivial, _, rfl, ?_⟩
          cases h1 : Txt.isascii x with
          | false => rw [h1] at q; exact q
          | true =>
            refine ⟨_, rfl, rfl, x, rfl, rfl, trivial, _, rfl, ?_⟩
            cases h2 : Txt.isalpha x with
            | false => rw [h1, h2] at q; exact q
            | true =>
              rw [h1, h2] at q
              exact ⟨_, rfl, rfl, x, rfl, rfl, trivial, q⟩
    · exact ⟨_, rfl, _, _, _, _, false, rfl, .ty _, ty, kit_ty e, _, rfl, q⟩
/-- what is never reached -/
theorem ps_dead {X : Cx} {st : Stmt} : PS X st (fun _ _ _ => False) := ⟨fun _ _ _ _ _ _ h => h.elim⟩
/-- a text that is a name -/
def NameV (v : V) : Prop := ∃ x : Str, v = .str x ∧ x.length ≤ sizeLine ∧ nameB x = true
/-- an amount -/
def AmtV (v : V) : Prop := ∃ i : Int, v = .int i ∧ 0 ≤ i
/-- check_names(values), all of them names; check_amounts(values), all of them amounts -/
def spAll (K : PySem.W.Frag) (R : V → Prop) : Sp := fun vs H Q _ => ∃ (a : Addr) (xs : List V), vs = [.ref a] ∧ SqL K H a xs ∧ (∀ x ∈ xs, R x) ∧ Q .non H
theorem scNames : FnScope ["values", "value"] ["values"] (defScope sNames) := ⟨rfl, rfl, rfl, by decide +kernel, rfl, by decide +kernel, by decide +kernel⟩
theorem scAmounts : FnScope ["values", "value"] ["values"] (defScope sAmounts) := ⟨rfl, rfl, rfl, by decide +kernel, rfl, by decide +kernel, by decide +kernel⟩
/-- a list or a tuple -/
def SqA (K : PySem.W.Frag) (H : Hp) (a : Addr) (xs : List V) : Prop := SqL K H a xs ∨ SqT K H a xs
def iSeq (K : PySem.W.Frag) (tl : TE) : TI := fun σ H R => iList K tl σ H R ∨ iTup K tl σ H R
theorem pi_seq {X : Cx} {tg l : Expr} {tl : TE} (h : PE X l tl) : PI X tg l (iSeq X.K tl) := ⟨fun pins s σ H R I q => q.elim ((pi_list h).run pins s σ H R I) ((pi_tup h).run pins s σ H R I)⟩
def spSeq (K : PySem.W.Frag) (R : V → Prop) : Sp := fun vs H Q _ => ∃ (a : Addr) (xs : List V), vs = [.ref a] ∧ SqA K H a xs ∧ (∀ x ∈ xs, R x) ∧ Q .non H
theorem ok_names (F : Fun K "check_names" "check_names" sNames f fd) (G : FnOk P w K mg base CX0 1 fN fdN ["value"] (spName K)) (b : Binds K fdN ["value"] []) (gN : mg "is_name" = some (.ref fN)) (kN : PySem.W.keepIn K (.ref fN) = true) :
    FnOk P w K mg base CX0 2 f fd ["values"] (spSeq K NameV) := by
  have nd := scNames.nd
  refine F.ok scNames (fun vs H Q E h => ?_) (fun cdv A outer s H vs Q E hr h => ?_)
  · obtain ⟨a, xs, rfl, _⟩ := h
    rfl
  · obtain ⟨a, xs, rfl, hS, hx, q⟩ := h
    refine ⟨_, pss_one (ps_for PassesOwn.never rfl (pi_seq (pv 0)) (pg_name (i := 1) nd rfl (Or.inl rfl))
      (pss_one (ps_if (pt_not (pt_val (pe_call G hr (by rfl) gN kN b .nil pass0 (pa_cons (pv 1) pa_nil)))) (pss_one ps_dead) pss_nil))), ?_⟩
    rcases hS with hS | hS
    · refine .inl ⟨_, rfl, a, rfl, ⟨_, hS⟩, for_list (xs := xs) (fun i σ H' => H' = H ∧ ∃ o, σ = [some (.ref a), o]) ⟨rfl, _, rfl⟩ (fun i σ H' _ h => by rw [h.1]; exact hS) (fun i x σ H' hi h => ?_) (fun σ H' h => ?_)⟩
      · obtain ⟨rfl, o, rfl⟩ := h
        obtain ⟨z, rfl, hz, hn⟩ := hx x (List.mem_of_getElem? hi)
        refine ⟨_, rfl, _, rfl, .inl ⟨z, rfl, hz, _, rfl, ?_⟩⟩
        rw [hn]
        exact ⟨rfl, _, rfl⟩
      · obtain ⟨rfl, o, rfl⟩ := h
        exact q
    · refine .inr ⟨_, rfl, a, rfl, ⟨_, hS⟩, for_tup (xs := xs) (fun i σ H' => H' = H ∧ ∃ o, σ = [some (.ref a), o]) ⟨rfl, _, rfl⟩ (fun i σ H' _ h => by rw [h.1]; exact hS) (fun i x σ H' hi h => ?_) (fun σ H' h => ?_)⟩
      · obtain ⟨rfl, o, rfl⟩ := h
        obtain ⟨z, rfl, hz, hn⟩ := hx x (List.mem_of_getElem? hi)
        refine ⟨_, rfl, _, rfl, .inl ⟨z, rfl, hz, _, rfl, ?_⟩⟩
        rw [hn]
        exact ⟨rfl, _, rfl⟩
      · obtain ⟨rfl, o, rfl⟩ := h
        exact q
theorem ok_amounts (F : Fun K "check_worths" "check_worths" sAmounts f fd) (G : FnOk P w K mg base CX0 2 fN fdN ["value"] (spAmount K)) (b : Binds K fdN ["value"] []) (gN : mg "is_amount" = some (.ref fN)) (kN : PySem.W.keepIn K (.ref fN) = true) :
    FnOk P w K mg base CX0 3 f fd ["values"] (spAll K AmtV) := by
  have nd := scAmounts.nd
  refine F.ok scAmounts (fun vs H Q E h => ?_) (fun cdv A outer s H vs Q E hr h => ?_)
  · obtain ⟨a, xs, rfl, _⟩ := h
    rfl
  · obtain ⟨a, xs, rfl, hS, hx, q⟩ := h
    refine ⟨_, pss_one (ps_for PassesOwn.never rfl (pi_list (pv 0)) (pg_name (i := 1) nd rfl (Or.inl rfl))
      (pss_one (ps_if (pt_not (pt_val (pe_call G hr (by rfl) gN kN b .nil pass0 (pa_cons (pv 1) pa_nil)))) (pss_one ps_dead) pss_nil))), ?_⟩
    refine ⟨_, rfl, a, rfl, ⟨_, hS⟩, for_list (xs := xs) (fun i σ H' => H' = H ∧ ∃ o, σ = [some (.ref a), o]) ⟨rfl, _, rfl⟩ (fun i σ H' _ h => by rw [h.1]; exact hS) (fun i x σ H' hi h => ?_) (fun σ H' h => ?_)⟩
    · obtain ⟨rfl, o, rfl⟩ := h
      obtain ⟨z, rfl, hz⟩ := hx x (List.mem_of_getElem? hi)
      refine ⟨_, rfl, _, rfl, .inl ⟨z, rfl, _, rfl, ?_⟩⟩
      rw [decide_eq_true hz]
      exact ⟨rfl, _, rfl⟩
    · obtain ⟨rfl, o, rfl⟩ := h
      exact q
/-! is_row, is_pair -/
abbrev sPair : Stmt := top 17
abbrev sRow : Stmt := top 18
theorem scPair : FnScope ["value"] ["value"] (defScope sPair) := ⟨rfl, rfl, rfl, by decide +kernel, rfl, by decide +kernel, by decide +kernel⟩
theorem scRow : FnScope ["value"] ["value"] (defScope sRow) := ⟨rfl, rfl, rfl, by decide +kernel, rfl, by decide +kernel, by decide +kernel⟩
/-- more built-ins that are still themselves -/
structure BltR (mg : Str → Option Value) : Prop where
  list : mg "list" = none
  tuple : mg "tuple" = none
def spRow (K : PySem.W.Frag) : Sp := fun vs H Q _ => ∃ (a : Addr) (xs : List V), vs = [.ref a] ∧ SqA K H a xs ∧ ∀ H', (∀ b o, H b = some o → H' b = some o) → Q (.bl true) H'
theorem SqL.ty {H : Hp} {a : Addr} {xs : List V} (h : H a = some (.lst xs)) : TyX K H (.ref a) (.type "list") := .base (.lst h)
end
end Fk

set_option Elab.async false
set_option linter.all false
set_option maxRecDepth 100000
set_option maxHeartbeats 4000000
/-! An own class of errors is called with keywords too: what BaseException.__new__ makes, then its own __init__. -/
namespace PySem
namespace XK
open PySem.W PySem.Calls PyProof.Rows PySem.HandSPX
section
variable {prog : Program} {w : World} {A : Around} {E : Value → Shared → Prop} {R : Result → Shared → Prop} {h : Heap} {g : Array GenState} {d : Drawn} {t : Nat} {os : OsState}
variable {nm q : Str} {C N : Addr} {bs bm up : List Value} {hdct : Bool} {sn : List Str} {sub : List Value} {ab : Bool} {col : Option Bool} {dd : Option Addr} {k0 k1 k2 k3 k5 : Option Value} {B newId initId : String} {us : List Value} {kw : List (Str × Value)} {fI : Addr}
/-- the class C, with bm above it, has the builtin ones that the base's chain `up` has -/
theorem above (same : ∀ n : String, bm.contains (.type n) = up.contains (.type n)) {n : String} {b : Bool} (e : up.contains (.type n) = b) : (Value.ref C :: bm).contains (.type n) = b := by
  rw [List.contains_cons, same, e]
  rfl
/-- new(C, *us, **kw): the error, its args a new tuple -/
theorem new_kw (F : ExcBaseFacts B newId initId up) (same : ∀ n : String, bm.contains (.type n) = up.contains (.type n)) (at_C : h.get? C = some (excClassObj nm q C N bs bm hdct sn sub ab col dd k0 k1 k2 k3 k5 newId)) (short : us.length ≤ sizeLine)
    (k : R (.ok (.ret (.ref (h.objs.size + 1)))) ⟨(h.push (W.kdv_tup us)).push (excO C h.objs.size), g, d, t, os⟩) : codeAny (model prog w) A (.builtin newId ⟨.ref C :: us, kw⟩) R ⟨h, g, d, t, os⟩ := by
  have yes := above (C := C) same F.hasB
  have noA := above (C := C) same F.noAttr
  have noN := above (C := C) same F.noName
  have room := F.ends
  refine codeAny_builtinAt F.entry ?_
  unfold Builtin.«BaseException.__new__»
  refine wpAt_bind ?_
  show wpAt _ _ _ (stack >>= _) _ _ _
  refine wpAt_bind (wpAt_stack fun _ _ => wpAt_of_wpAny ?_)
  wp_walk
  refine wpAt_of_wpAny ?_
  rw [F.owner]
  repeat (first
    | with_reducible refine wpAny_madeHere_exc F.canon at_C ?_
    | with_reducible refine wpAny_loadPart_at at_C ?_
    | (with_reducible refine wpAny_isSubtype_exc at_C ?_; (first | rw [yes] | rw [noA] | rw [noN]))
    | wp_step)
  show R _ _
  rw [Heap.size_push]
  exact k
/-- type.__call__(C, *us, **kw): the error at the second new address; then __init__ at fI has it -/
theorem type_call_kw {Q : Fin → Shared → Prop} (F : ExcBaseFacts B newId initId up) (same : ∀ n : String, bm.contains (.type n) = up.contains (.type n)) (at_C : h.get? C = some (excClassObj nm q C N bs bm hdct sn sub ab col dd k0 k1 k2 k3 k5 newId)) (short : us.length ≤ sizeLine)
    (init : W.Looks (model prog w) h (typeLookup (.ref C) "__init__") (some (.ref fI))) (bind : ∀ self, W.Looks (model prog w) h (bindSpecial (.ref fI) self) (.ref fI, [self]))
    (k : codeAny (model prog w) A (.call (.ref fI) ⟨.ref (h.objs.size + 1) :: us, kw⟩)
      (fun r s' => match r with | .ok (.ret v) => v = .none ∧ Q (.done (.ret (.ref (h.objs.size + 1)))) s' | .ok _ => False | .error e => E e s') ⟨(h.push (W.kdv_tup us)).push (excO C h.objs.size), g, d, t, os⟩) :
    wpAny (model prog w) A (Builtin.«type.__call__» ⟨.ref C :: us, kw⟩) Q E ⟨h, g, d, t, os⟩ := by
  have old : ∀ b o, h.get? b = some o → ((h.push (W.kdv_tup us)).push (excO C h.objs.size)).get? b = some o := fun b o e => Heap.get?_push_of_some _ (Heap.get?_push_of_some _ e)
  have made : ((h.push (W.kdv_tup us)).push (excO C h.objs.size)).get? (h.objs.size + 1) = some (excO C h.objs.size) := by heap_get
  have itself : (Value.ref C :: bm).contains (.ref C) = true := by simp
  have yes := above (C := C) same F.hasB
  have star := F.noStar
  repeat (first | with_reducible refine wpAny_loadPart_at at_C ?_ | with_reducible refine wpAny_madeBy_exc at_C ?_ | wp_step)
  refine codeAny_call_builtin_code (Code.quiet_builtin _ F.quiet) ?_
  -- new's own arguments pass: any, with any keywords
  simp only [checkBuiltinCall, F.newKind, F.newSplit, F.newRow]
  repeat (first
    | refine wpAny_loadPart_at at_C ?_
    | (refine wpAny_isSubtype_exc at_C ?_; rw [yes])
    | refine wpAny_staticBase_exc at_C ?_
    | refine wpAny_madeBy_exc at_C ?_
    | simp only [bne_self_eq_false, Bool.false_eq_true, if_false]
    | wp_step)
  refine new_kw F same at_C short ?_
  show wpAny _ _ _ _ _ _
  unfold isInstance
  have at_C' := old _ _ at_C
  repeat (first | with_reducible refine wpAny_loadPart_at made ?_ | (with_reducible refine wpAny_isSubtype_exc at_C' ?_; rw [itself]) | wp_step)
  show wpAny _ _ (typeLookup (.ref C) _) _ _ _
  refine (init.keeps old).at (wpAny_holding (wpAny_bind (((bind _).keeps old).at (wpAny_bind (wpAny_call (codeAny_mono k fun r s' z => ?_))))))
  rcases r with e | (v | _ | _ | _)
  all_goals first | exact z | exact z.elim | skip
  obtain ⟨rfl, z⟩ := z
  first
    | exact wpAny_pure (wpAny_pure z)
    | (wp_walk; exact z)
/-- C(*us, **kw) -/
theorem call_kw (F : ExcBaseFacts B newId initId up) (same : ∀ n : String, bm.contains (.type n) = up.contains (.type n)) (at_C : h.get? C = some (excClassObj nm q C N bs bm hdct sn sub ab col dd k0 k1 k2 k3 k5 newId)) (short : us.length ≤ sizeLine)
    (init : W.Looks (model prog w) h (typeLookup (.ref C) "__init__") (some (.ref fI))) (bind : ∀ self, W.Looks (model prog w) h (bindSpecial (.ref fI) self) (.ref fI, [self]))
    (k : codeAny (model prog w) (A.under (.builtin "type.__call__" ⟨.ref C :: us, kw⟩)) (.call (.ref fI) ⟨.ref (h.objs.size + 1) :: us, kw⟩) (W.InitBack (h.objs.size + 1) R) ⟨(h.push (W.kdv_tup us)).push (excO C h.objs.size), g, d, t, os⟩) :
    codeAny (model prog w) A (.call (.ref C) ⟨us, kw⟩) R ⟨h, g, d, t, os⟩ := by
  have look := tc_lookup
  have self := tc_bind (.ref C)
  have isT : (⟨h, g, d, t, os⟩ : Shared).TypeIs (.ref C) "type" := ⟨_, at_C, rfl⟩
  refine codeAny_of_tree ?_
  show wpAny _ _ (callAny (.ref C) _) _ _ _
  repeat (any_goals (first | assumption | with_reducible refine wpAny_loadPart_at at_C ?_ | wp_step))
  refine ⟨rfl, codeAny_call_builtin_at (Code.quiet_builtin _ (by decide +kernel)) entry_typeCall (wpAny_check_type_call_sub at_C (type_call_kw F same at_C short init bind (codeAny_mono k fun r s' z => ?_)))⟩
  rcases r with e | (v | _ | _ | _) <;> exact z
end
end XK
end PySem

set_option Elab.async false
set_option linter.all false
set_option maxRecDepth 100000
set_option maxHeartbeats 4000000
namespace PySem
namespace XK
open PySem.W PySem.Calls PyProof.Rows PySem.HandSPX
section
variable {prog : Program} {w : World} {A : Around} {E : Value → Shared → Prop} {s : Shared} {K : Frag} {x D : Addr} {ox : Obj}
/-- a data descriptor of the class goes ahead of the object's own dict -/
theorem found_data {C : Addr} {od : Option Obj} {n : Str} {a g : Value} {cd : ClassData} (c : clsIn K C = some cd) (ha : findIn K (.ref C) n = some (some a)) (hg : specialIn K a "__get__" = some (some g)) (ht : takesIn K a = some true) : findObj K C od n = some (.bind g a) := by
  simp [findObj, c, ha, hg, ht]
/-- what the class D of an error must say, so that isinstance asks its objects rightly -/
structure Asked (K : Frag) (D : Addr) : Prop where
  ga : findIn K (.ref D) "__getattribute__" = some (some (.builtin "BaseException.__getattribute__"))
  gg : findIn K (.ref D) "__getattr__" = some none
  ex : subIn K (.ref D) (.type "BaseException") = some true
  cd : ∃ cd : ClassData, clsIn K D = some cd
  cl : findIn K (.ref D) "__class__" = some (some (.builtin "object.__class__"))
  ge : specialIn K (.builtin "object.__class__") "__get__" = some (some (.builtin "getset_descriptor.__get__"))
  tk : takesIn K (.builtin "object.__class__") = some true
  mo : mroIn K D (.type "object") = some true
theorem Asked.obj (T : Asked K D) : ∃ c d cd sl, K.lookup D = some ⟨c, d, .cls cd, sl⟩ := by
  obtain ⟨cd, e⟩ := T.cd
  unfold clsIn at e
  split at e
  · exact ⟨_, _, _, _, by assumption⟩
  · cases e
/-- e.__class__, e an error with or without a dict of its own -/
theorem Asked.get {od : Option Obj} {Q : Option Value → Shared → Prop} (T : Asked K D) (X : K.In s.heap) (I : InstAt s.heap x ox D od) (k : Q (some (.ref D)) { s with toks := s.toks + 1 }) : wpAny (model prog w) A (getAttr? (.ref x) "__class__") Q E s := by
  obtain ⟨cd, hcd⟩ := T.cd
  have found := looks_find (M := model prog w) X I (found_data (od := od) hcd T.cl T.ge T.tk)
  obtain ⟨hp, g, d, t, os⟩ := s
  have ty := I.type (M := model prog w)
  have isE : Looks (model prog w) hp (isInstance (.ref x) (.type "BaseException")) true := ty.andThen (looks_subIn X T.ex)
  have no : (onTheHeap (Value.ref D) && Value.builtin "BaseException.__getattribute__" == Value.builtin "object.__getattribute__") = false := by
    rw [show (Value.builtin "BaseException.__getattribute__" == Value.builtin "object.__getattribute__") = false by decide +kernel]
    rfl
  unfold getAttr? getAttrBy? getAttrBy
  refine wpAny_bind (wpAny_mkText (wpAny_bind (wpAny_attempt (wpAny_holding (wpAny_bind (ty.at (wpAny_bind ((looks_findIn X T.ga).at ?_))))))))
  show wpAny _ _ (if (onTheHeap (Value.ref D) && Value.builtin "BaseException.__getattribute__" == Value.builtin "object.__getattribute__") = true then _ else _) _ _ _
  rw [if_neg (by rw [no]; decide)]
  unfold getAttrByItsOwn hookBefore
  refine wpAny_bind ?_
  rw [if_pos (show onTheHeap (Value.ref D) = true from rfl)]
  refine (looks_findIn X T.gg).at (wpAny_bind (wpAny_attempt (wpAny_holding ?_)))
  unfold callGetattribute
  rw [if_neg (show ¬ (false && onTheHeap (Value.builtin "BaseException.__getattribute__")) = true by decide)]
  unfold boundAndCalled
  rw [PySem.F.excAttr_ValueError.ga.bind (.ref x)]
  refine wpAny_bind (wpAny_pure (wpAny_call (codeAny_call_builtin PySem.F.excAttr_ValueError.ga.plain PySem.F.entry_bexc_ga ?_)))
  refine @check_slot (model prog w) _ _ ⟨hp, g, d, t + 1, os⟩ "BaseException.__getattribute__" "BaseException" "__getattribute__" (.ref x) [.str "__class__" t] [] _ (by decide +kernel) (by decide +kernel) isE (PySem.F.args_bexc_ga (.ref x) (.str "__class__" t)) ?_
  unfold Builtin.«object.__getattribute__»
  refine wpAny_bind (wpAny_of_eq (a := ((Value.ref x : Value), [Value.str "__class__" t])) (by first | rfl | (simp only [slotArgs]; rfl)) (wpAny_bind (wpAny_pure (wpAny_bind (ty.at (wpAny_bind (found.at ?_)))))))
  show wpAny _ _ (holding [Value.builtin "object.__class__"] (call (.builtin "getset_descriptor.__get__") [.builtin "object.__class__", .ref x, .ref D]) >>= ret) _ _ _
  refine wpAny_bind (wpAny_holding (wpAny_call (class_get (s := ⟨hp, g, d, t + 1, os⟩) (ox := ox) (od := od) X I T.mo (wpAny_pure ?_))))
  show wpAny _ _ (handedOut (.ref D)) _ _ _
  rw [handedOut_of (v := .ref D) rfl]
  first
    | exact wpAny_pure (wpAny_pure k)
    | exact wpAny_pure k
    | exact wpAny_pure (wpAny_bind (wpAny_pure (wpAny_pure k)))
theorem Asked.kit {od : Option Obj} (T : Asked K D) : KitX K (.ref x) (.ref D) (fun h => InstAt h x ox D od) := by
  obtain ⟨c, d, cd, sl, ho⟩ := T.obj
  exact {
    ty := fun _ _ _ I => I.type
    it := fun _ _ X _ _ _ _ _ k q => by
      unfold isType loadHead
      exact wpAny_bind (wpAny_loadPart (k _ _ (X _ _ ho)) (wpAny_pure q))
    ne := fun h tp _ _ _ _ X there => Bool.eq_false_iff.mpr fun q => by
      obtain rfl : D = tp := Value.ref.inj (beq_iff_eq.mp q)
      cases (X _ _ ho).symm.trans there
    ca := fun X I k => T.get X I k }
end
end XK
end PySem

namespace L2
open PySem PySem.Spec PyProof.Rows
/-- at a: an exception of the class at C that is not raised, with its fields -/
def ErrAt (H : Hp) (a C : Addr) (fs : List (Str × V)) : Prop := (fs = [] ∧ H a = some (exo a C none)) ∨ ∃ d, H a = some (exo a C (some d)) ∧ H d = some (exd d fs)
theorem ErrAt.ex {H H' : Hp} {a C : Addr} {fs : List (Str × V)} (e : ∀ b o, H b = some o → H' b = some o) (h : ErrAt H a C fs) : ErrAt H' a C fs := by
  rcases h with ⟨e1, e2⟩ | ⟨d, e1, e2⟩
  · exact .inl ⟨e1, e _ _ e2⟩
  · exact .inr ⟨d, e _ _ e1, e _ _ e2⟩
section
variable {X : Cx} {pins : List (Addr × Obj)} {σ : St} {H : Hp} {s : Shared}
theorem ErrAt.inst {a C : Addr} {fs : List (Str × V)} (I : Inv X pins σ H s) (h : ErrAt H a C fs) : ∃ ox od, PySem.W.InstAt s.heap a ox C od := by
  rcases h with ⟨_, e⟩ | ⟨d, e, ed⟩
  · obtain ⟨t1, ho⟩ := exo_at I.hok e
    exact ⟨_, none, ho, rfl, rfl, trivial⟩
  · obtain ⟨t1, ho⟩ := exo_at I.hok e
    obtain ⟨mA, ⟨od, _, _, hd, _⟩, _⟩ := exd_at I.hok ed
    exact ⟨_, some od, ho, rfl, rfl, hd⟩
/-- isinstance(e, c), e an exception of an own class -/
def rIsX (K : PySem.W.Frag) : List V → Hp → VK → Prop := fun xs H Q => ∃ (a D : Addr) (fs : List (Str × V)) (c : V) (cv : Value) (b : Bool), xs = [.ref a, c] ∧ ErrAt H a D fs ∧ ExcC K D ∧ ClsV c cv ∧ PySem.W.kitOne K (.ref D) cv = some b ∧ Q (.bl b) H
theorem call_isX : CallR X (.builtin "isinstance") (rIsX X.K) := by
  intro pins s σ H xs us Q I r h
  obtain ⟨a, D, fs, c, cv, b, rfl, ea, C, k, e, q⟩ := h
  obtain ⟨u1, u2, rfl, r1, r2⟩ := vals2 r
  have e2 := k.eq r2
  subst e2
  cases r1
  obtain ⟨ox, od, J⟩ := ea.inst I
  exact PySem.W.kia_one (PySem.XK.Asked.kit (od := od) (ox := ox) ⟨C.hg, C.hk, C.hs, (let ⟨cd, hc, _⟩ := PySem.W.any_some C.hd; ⟨cd, hc⟩), C.ha, C.hn, C.ht, C.hm⟩) I.kIn J e (fun z => nomatch z) fun tk => ⟨.bl b, H, I.kept (t' := tk) fun _ _ z => z, rfl, q⟩
/-- e.f, e an exception of an own class -/
def tXv (K : PySem.W.Frag) (f : Str) (te : TE) : TE := fun σ H Q => te σ H fun x H1 => ∃ (a C : Addr) (fs : List (Str × V)) (v : V), x = .ref a ∧ XfC K C ∧ PySem.W.findIn K (.ref C) f = some none ∧ ErrAt H1 a C fs ∧ fs.lookup f = some v ∧ Q v H1
theorem pe_xv {e : Expr} {te : TE} {pos : Pos} {n : Str} (he : PE X e te) (hb : attributeBase e n X.env (eval e X.env) = eval e X.env := by rfl) :
    PE X (.Attribute e n pos) (tXv X.K n te) := by
  refine ⟨fun pins s σ H Q I h => ?_⟩
  refine attr_of hb (thn (he.run pins s σ H _ I h) fun u s1 hh => ?_)
  obtain ⟨x, H1, I1, rx, a, C, fs, v, ex, T, hno, ea, l, q⟩ := hh
  subst ex
  obtain rfl : u = Value.ref a := rx
  rcases ea with ⟨e1, _⟩ | ⟨dd, e1, ed⟩
  · subst e1
    cases l
  · obtain ⟨t1, ho⟩ := exo_at I1.hok e1
    obtain ⟨mA, hns, hr⟩ := exd_at I1.hok ed
    obtain ⟨od, hd, hl⟩ := lookIn_ns hns
    obtain ⟨u, hu, ru⟩ := RelO.some_of (v := v) (o := mA n) (by rw [← l]; exact hr n)
    have J : PySem.W.InstAt s1.heap a _ C (some od) := ⟨ho, rfl, rfl, hd⟩
    exact HandSPX.exc_get I1.kIn J T.ga T.gg T.exC (PySem.W.findObj_own T.hdC hno rfl (by rw [hl, hu])) (handed_of ru) ⟨v, H1, I1.tok _, ru, q⟩
/-- C(e, .., k = v, ..) as a value, C's own __init__ keeping sp -/
def tMkV (C : Addr) (n m : Nat) (sp : Sp) (gV : List V → List V → List V) (E : XK) (ta tk : TA) : TE := fun σ H Q => ta σ H fun vs H1 => tk σ H1 fun zs H2 => vs.length = n ∧ zs.length = m ∧
  ∀ a, H2 a = none → sp (gV (.ref a :: vs) zs) (upd H2 a (exo a C none)) (fun v H3 => v = .non ∧ Q (.ref a) H3) E
variable {CX : CXT} {k n : Nat} {f C fI : Addr} {fd : FuncData} {ps ks : List Str} {sp : Sp} {E : XK} {x : Str} {p pos : Pos} {e : Expr} {es : List Expr} {kws : List Keyword} {t tk : TA} {g : List Value → List Value → List Value} {gV : List V → List V → List V}
theorem run_mkv {Q : VK} {us ws : List Value} {vs zs : List V} (T : OexC X.K C) (iC : PySem.W.findIn X.K (.ref C) "__init__" = some (some (.ref fI))) (tI : PySem.W.typeIn X.K (.ref fI) = some (.type "function"))
    (F1 : FnOk X.prog X.w X.K X.mg X.base CX k fI fd ps sp) (hr : Room (k + 1) X.A) (hb : KBn X.K fd ps (n + 1) ks g gV) (hx : Passes CX X E) (I : Inv X pins σ H s) (r : Vals vs us) (rz : Vals zs ws) (l1 : vs.length = n) (l2 : zs.length = ks.length) (hn : n ≤ 1000)
    (h : ∀ a, H a = none → sp (gV (.ref a :: vs) zs) (upd H a (exo a C none)) (fun v H3 => v = .non ∧ Q (.ref a) H3) E) :
    wpAny (model X.prog X.w) X.A (call (.ref C) us (ks.zip ws)) (EP X pins σ Q) X.xe s := by
  obtain ⟨nm, q, N, bs, bm, sn, sub, ab, col, dd, k0, k1, k2, k3, k5, hC, hbm⟩ := T.cls
  obtain ⟨hp, gn, dr, tk, os⟩ := s
  have hsz : hp.objs.size ≤ hp.objs.size + 1 := Nat.le_succ _
  have hnn : H (hp.objs.size + 1) = none := I.hok.fresh hsz
  have hq := h (hp.objs.size + 1) hnn
  have kk : ∀ b o, hp.get? b = some o → ((hp.push (PySem.W.kdv_tup us)).push (PySem.HandSPX.excO C hp.objs.size)).get? b = some o := fun b o e => Heap.get?_push_of_some _ (Heap.get?_push_of_some _ e)
  have hget : ((hp.push (PySem.W.kdv_tup us)).push (PySem.HandSPX.excO C hp.objs.size)).get? (hp.objs.size + 1) = some (PySem.HandSPX.excO C hp.objs.size) := by heap_get
  have I2 : Inv X pins σ (upd H (hp.objs.size + 1) (exo (hp.objs.size + 1) C none)) ⟨(hp.push (PySem.W.kdv_tup us)).push (PySem.HandSPX.excO C hp.objs.size), gn, dr, tk, os⟩ :=
    I.laid (t' := tk) (a := hp.objs.size + 1) (o := exo (hp.objs.size + 1) C none) (h' := (hp.push (PySem.W.kdv_tup us)).push (PySem.HandSPX.excO C hp.objs.size)) kk hsz (exo_ok hget)
  have r1 : Vals (V.ref (hp.objs.size + 1) :: vs) (Value.ref (hp.objs.size + 1) :: us) := .cons rfl r
  have r2 := hb.rel r1 rz
  have e1 : (Value.ref (hp.objs.size + 1) :: us).length = n + 1 := r1.length.symm.trans (congrArg Nat.succ l1)
  have e2 : ws.length = ks.length := rz.length.symm.trans l2
  have hus : us.length ≤ sizeLine := by
    rw [← Paired.length r, sizeLine_eq, l1]
    omega
  refine wpAny_call (PySem.XK.call_kw F.excBase_ValueError (fun Y => PySem.HandSPX.refsVE_contains Y bm hbm) (I.kIn _ _ hC) hus (PySem.W.looks_findIn I.kIn iC) (fun self => PySem.W.bind_fn I.kIn self tI)
    (codeAny_mono (F1.run _ X.stack _ _ ⟨Value.ref (hp.objs.size + 1) :: us, ks.zip ws⟩ (g (Value.ref (hp.objs.size + 1) :: us) ws) _ _ E (hr.make C us (ks.zip ws)) (I2.env0.make C us (ks.zip ws)) (hb.to _ (Value.ref (hp.objs.size + 1) :: us) ws I2.kIn e1 e2) r2 hq) fun r s' hq' => ?_))
  cases r with
  | error er => exact hx pins σ _ _ er s' I2 hq'
  | ok fl =>
    cases fl with
    | ret u =>
      obtain ⟨v, H', I3, rv, ev, q3⟩ := I2.after hq'
      subst ev
      exact ⟨rv, ⟨V.ref (hp.objs.size + 1), H', I3, rfl, q3⟩⟩
    | next => exact False.elim hq'
    | brk => exact False.elim hq'
    | cont => exact False.elim hq'
/-- what such a class has -/
structure MkvC (K : PySem.W.Frag) (C fI : Addr) : Prop where
  o : OexC K C
  iC : PySem.W.findIn K (.ref C) "__init__" = some (some (.ref fI))
  tI : PySem.W.typeIn K (.ref fI) = some (.type "function")
/-- C(e, ..) -/
theorem pe_mkv (M : MkvC X.K C fI) (F : FnOk X.prog X.w X.K X.mg X.base CX k fI fd ps sp) (hr : Room (k + 1) X.A) (hg : Gl X x) (hm : X.mg x = some (.ref C)) (hb : KBn X.K fd ps (n + 1) [] g gV) (hx : Passes CX X E) (hn : n ≤ 1000)
    (ha : PA X (e :: es) t) (hdb : (x == ("__debug__" : Str)) = false := by decide) (he : starEach (e :: es) X.env = (false, eval e X.env) :: starEach es X.env := by rfl) (hpl : (backTo pos (starEach es X.env)).any (·.1) = false := by rfl) :
    PE X (.Call (.Name x p) (e :: es) [] pos) (tMkV C n 0 sp gV E t tNil) := by
  refine ⟨fun pins s σ H Q I h => ?_⟩
  refine wpAny_Call_Name_kw (ld_glob I hg hm ?_ hdb)
  refine PySem.W.callWith_K (h₀ := X.base) I.ok.mod.kin M.o.kC (thn (ha.run pos pins s σ H _ I h) fun us s1 ⟨vs, H1, I1, r, l1, l2, q⟩ => ⟨I1.kIn, ?_⟩) he hpl
  exact run_mkv (ks := []) (ws := []) (zs := []) M.o M.iC M.tI F hr hb hx I1 r .nil l1 rfl hn q
/-- C(k = v, ..) -/
theorem pe_mkv0 (M : MkvC X.K C fI) (F : FnOk X.prog X.w X.K X.mg X.base CX k fI fd ps sp) (hr : Room (k + 1) X.A) (hg : Gl X x) (hm : X.mg x = some (.ref C)) (hb : KBn X.K fd ps 1 ks g gV) (hx : Passes CX X E) (hkw : PK X kws tk)
    (hall : (backToKw pos (keywordEach kws X.env)).all (·.1.isSome) = true := by rfl) (hks : (backToKw pos (keywordEach kws X.env)).filterMap (·.1) = ks := by rfl) (hdb : (x == ("__debug__" : Str)) = false := by decide)
    (hpl : ((backTo pos (starEach [] X.env)).any (·.1) || (backToKw pos (keywordEach kws X.env)).any (·.1.isNone)) = false := by rfl) :
    PE X (.Call (.Name x p) [] kws pos) (tMkV C 0 ks.length sp gV E tNil tk) := by
  refine ⟨fun pins s σ H Q I h => ?_⟩
  refine wpAny_Call_Name_kw (ld_glob I hg hm ?_ hdb)
  refine PySem.W.callWith_KW0 (h₀ := X.base) I.ok.mod.kin M.o.kC hall ?_ hpl
  refine thn (hkw.run pos pins s σ H _ I h) fun ws s2 ⟨zs, H2, I2, rz, l1, l2, q2⟩ => ⟨I2.kIn, ?_⟩
  rw [hks]
  exact run_mkv (us := []) (vs := []) M.o M.iC M.tI F hr hb hx I2 .nil rz rfl l2 (by decide) q2
/-- C(e, .., k = v, ..) -/
theorem pe_mkvK (M : MkvC X.K C fI) (F : FnOk X.prog X.w X.K X.mg X.base CX k fI fd ps sp) (hr : Room (k + 1) X.A) (hg : Gl X x) (hm : X.mg x = some (.ref C)) (hb : KBn X.K fd ps (n + 1) ks g gV) (hx : Passes CX X E) (hn : n ≤ 1000) (ha : PA X (e :: es) t) (hkw : PK X kws tk)
    (hall : (backToKw pos (keywordEach kws X.env)).all (·.1.isSome) = true := by rfl) (hks : (backToKw pos (keywordEach kws X.env)).filterMap (·.1) = ks := by rfl) (hdb : (x == ("__debug__" : Str)) = false := by decide)
    (he : starEach (e :: es) X.env = (false, eval e X.env) :: starEach es X.env := by rfl) (hpl : ((backTo pos (starEach (e :: es) X.env)).any (·.1) || (backToKw pos (keywordEach kws X.env)).any (·.1.isNone)) = false := by rfl) :
    PE X (.Call (.Name x p) (e :: es) kws pos) (tMkV C n ks.length sp gV E t tk) := by
  refine ⟨fun pins s σ H Q I h => ?_⟩
  refine wpAny_Call_Name_kw (ld_glob I hg hm ?_ hdb)
  refine PySem.W.callWith_KW (h₀ := X.base) I.ok.mod.kin M.o.kC hall (thn (ha.run pos pins s σ H _ I h) fun us s1 ⟨vs, H1, I1, r, q⟩ => ?_) hpl he
  refine thn (hkw.run pos pins s1 σ H1 _ I1 q) fun ws s2 ⟨zs, H2, I2, rz, l1, l2, q2⟩ => ⟨I2.kIn, ?_⟩
  rw [hks]
  exact run_mkv M.o M.iC M.tI F hr hb hx I2 r rz l1 l2 hn q2
/-- C(), C(e), C an own class without own __init__ -/
theorem run_exc {Q : VK} {us : List Value} {bmB : List Value} {B newId initId : String} (F : ExcBaseFacts B newId initId bmB) (q : PySem.W.excIn X.K C bmB newId = true) (I : Inv X pins σ H s) (hl : us.length ≤ 1000)
    (h : ∀ a, H a = none → Q (.ref a) (upd H a (exo a C none))) : wpAny (model X.prog X.w) X.A (call (.ref C) us) (EP X pins σ Q) X.xe s := by
  obtain ⟨hp, gn, dr, tk, os⟩ := s
  obtain ⟨bm, N, nm, qn, bs, hdct, sn, sub, ab, col, dd, k0, k1, k2, k3, k5, mN, hC, hN, hni, T⟩ := exc_obj I.kIn q
  refine wpAny_call_exc_subT F T hC hN hni (fun h' a hm => ?_) (by rw [sizeLine_eq]; omega)
  have hn : H a = none := I.hok.gone hm.new
  obtain ⟨t, ht, _, _⟩ := hm.there
  exact ⟨.ref a, upd H a (exo a C none), I.laidN hm.keeps hm.new hn (exo_ok ht), rfl, h a hn⟩
end
end L2

set_option Elab.async false
set_option linter.all false
set_option maxRecDepth 100000
set_option maxHeartbeats 4000000
/-! Defs that are called while no repr is under way. -/
namespace XG
open PySem PySem.Spec PyProof.Rows L2
section
variable {CX : CXT} {P : Program} {w : World} {K : PySem.W.Frag} {mg : Str → Option Value} {base : Heap} {k : Nat} {f : Addr} {ps : List Str} {sp : Sp}
/-- the def at f keeps sp wherever no object is being shown -/
def FnG (P : Program) (w : World) (K : PySem.W.Frag) (mg : Str → Option Value) (base : Heap) (CX : CXT) (k : Nat) (f : Addr) (fd : FuncData) (ps : List Str) (sp : Sp) : Prop :=
  ∀ (A : Around) (outer : List Env) (s : Shared) (H : Hp) (args : Args) (us : List Value) (vs : List V) (Q : VK) (E : XK), A.guards = some [] → Room k A → Env0 P w K mg base A outer s H →
    BindsTo s fd args (ps.zip us) → Vals vs us → sp vs H Q E → codeAny (model P w) A (.call (.ref f) args) (CR CX outer P w H s Q E) s
theorem fnG_of {qual x : Str} {params : Arguments} {body : List Stmt} {scope : Scope} {dV kV doc pm cdv ct oc : Value} {an od : Option Addr} {osl : Array (Option Value)} {N : List Str}
    (lk : K.lookup f = some ⟨oc, od, .func (PySem.W.fnOf x qual params body scope dV kV doc pm an cdv ct), osl⟩) (hcd : PySem.W.codeIn K cdv qual = true) (S : FnScope N ps scope) (len : ∀ vs H Q E, sp vs H Q E → vs.length = ps.length)
    (walk : ∀ (A : Around) (outer : List Env) (s : Shared) (H : Hp) (vs : List V) (Q : VK) (E : XK), A.guards = some [] → Room k (A.deeper (envOfC qual scope s.heap.objs.size f cdv)) → sp vs H Q E →
      ∃ t, PSs (cxOf CX P w K mg base N qual scope f cdv A outer s H E) body t ∧ t { nx := fun _ H' => Q .non H', rt := Q } (start N vs) H) :
    FnG P w K mg base CX (k + 1) f (PySem.W.fnOf x qual params body scope dV kV doc pm an cdv ct) ps sp := by
  intro A outer s H args us vs Q E gd room e0 bd r h
  have n1 := len _ _ _ _ h
  have inH : ∀ b o, base.get? b = some o → s.heap.get? b = some o := fun b o e => (e0.bs b o e).1
  have kin : K.In s.heap := e0.mod.kin.keeps inH
  have par : ∀ y ∈ ps.zip us, scope.names.lookup y.1 = some .local ∨ (scope.names.lookup y.1 = some .cell ∧ ((cellsFrom (s.heap.objs.size + 1) scope.names []).lookup y.1).isSome = true) := by
    rintro ⟨y, z⟩ hy
    exact (S.par y (List.of_mem_zip hy).1).imp id fun q => ⟨q, PySem.W.cellsFrom_some _ _ _ (.inl q)⟩
  refine codeAny_call_function room.depth (kin _ _ lk) rfl S.co S.gen rfl (PySem.W.codeRec_of kin hcd) (bd _ _ _ _ (wpAny_newFunctionEnv_cells S.kind par fun env he s1 z => ?_))
  subst he
  refine ⟨(e0.mod.nolimit.keeps inH).keeps z.toInCall.keep, codeAny_func ?_⟩
  obtain ⟨t, body_ok, ends⟩ := walk A outer s H vs Q E gd (room.deeper _) h
  have J := inv_start (CX := CX) (E := E) S room.hd e0 n1 r z
  refine wpAny_mono (body_ok.run [] s1 _ H _ J ends) (fun fl s' q => ?_) fun e s' q => q
  rcases fl with u | _ | _ | _
  all_goals first
    | (obtain ⟨v, σ', H', J', rv, q⟩ := q; exact ⟨v, H', J'.os, J'.bare, J'.base, J'.hok, rv, q⟩)
    | (obtain ⟨σ', H', J', q⟩ := q; exact ⟨V.non, H', J'.os, J'.bare, J'.base, J'.hok, rfl, q⟩)
    | (obtain ⟨_, _, _, q⟩ := q; exact q.elim)
theorem Fun.okG {x qual : Str} {st : Stmt} {fd : FuncData} {N : List Str} (F : Fun K x qual st f fd) (S : FnScope N ps (defScope st)) (len : ∀ vs H Q E, sp vs H Q E → vs.length = ps.length)
    (walk : ∀ (cdv : Value) (A : Around) (outer : List Env) (s : Shared) (H : Hp) (vs : List V) (Q : VK) (E : XK), A.guards = some [] → Room k (A.deeper (envOfC qual (defScope st) s.heap.objs.size f cdv)) → sp vs H Q E →
      ∃ t, PSs (cxOf CX0 P w K mg base N qual (defScope st) f cdv A outer s H E).nox (defBody st) t ∧ t { nx := fun _ H' => Q .non H', rt := Q } (start N vs) H) : FnG P w K mg base CX0 (k + 1) f fd ps sp := by
  obtain ⟨oc, od, kV, doc, pm, an, cdv, ct, osl, rfl, lk, hcd⟩ := F.ex
  refine fnG_of lk hcd S len fun A outer s H vs Q E gd room h => ?_
  obtain ⟨t, a, b⟩ := walk cdv A outer s H vs Q E gd room h
  exact ⟨t, a.nox, b⟩
/-- the claim's call, from a heap in which nothing but the script is tracked -/
theorem core {mb : Str → Option Value} {fd : FuncData} {a : Addr} {x : Str} {s₁ : Shared} {vs : List Value} (kin : K.In s₁.heap) (hns : s₁.heap.Ns mainGlobals mg) (hb : s₁.heap.Ns builtinsNs mb) (hbb : ∀ x : Str, x ≠ "__name__" → mb x = bootBuiltins x)
    (lim : s₁.heap.NoLimit) (gens : s₁.gens = #[]) (ha : s₁.heap.get? a = some { cls := .type "list", data := .seq vs.toArray }) (room : Room k callerA)
    (F : ∀ base : Heap, K.In base → base.Ns mainGlobals mg → FnG P w K mg base CX k f fd [x] sp) (bind : ∀ (s : Shared) (u : Value), BindsTo s fd ⟨[u], []⟩ [(x, u)])
    (none' : ∀ H e s', CX [] H s₁ (fun _ _ _ => False) e s' → False) {H : Hp} (only : Only H) (h : sp [.ref a] H (fun v _ => v = .bl true) fun _ _ _ => False) (hok : HOk P w H s₁.heap) (at_a : ∀ b, H b ≠ none → b = a) (not_K : H a ≠ none → K.lookup a = none) :
    codeAny (model P w) callerA (.call (.ref f) ⟨[.ref a], []⟩) (fun r s' => r = .ok (.ret (.bool true)) ∧ OldK s₁.heap s'.heap ∧ s'.os = s₁.os ∧ AllBare s'.gens) s₁ := by
  have tr : ∀ {b : Addr}, H b ≠ none → H a ≠ none := fun {b} z => at_a b z ▸ z
  have nsI : ∀ {b : Addr} {m : Str → Option Value}, s₁.heap.Ns b m → (hidT s₁.heap H).Ns b m := fun {b m} ⟨o, es, ep, e, d, r⟩ => by
    refine ⟨o, es, ep, hidT_get e ?_, d, r⟩
    by_cases q : H b = none
    · exact q
    · obtain rfl := at_a b q
      rw [ha] at e
      cases e
      cases (show Data.seq vs.toArray _ = Data.dict es ep from d)
  have kinI : K.In (hidT s₁.heap H) := fun b o e => hidT_get (kin b o e) (by
    by_cases q : H b = none
    · exact q
    · obtain rfl := at_a b q
      rw [not_K q] at e
      cases e)
  obtain ⟨mc, lim1, lim2⟩ := lim
  have e0 : Env0 P w K mg (hidT s₁.heap H) callerA [] s₁ H := {
    frames := rfl
    mod := ⟨kinI, nsI hns, ⟨mb, nsI hb, hbb⟩, mc, nsI lim1, lim2⟩
    bs := fun b o e => of_hidT e
    bsz := Nat.le_of_eq (hidT_size _ _)
    funs := trivial
    frf := fun b z => absurd (show b ∈ ([] : List Addr) from z) List.not_mem_nil
    hok := hok
    bare := .of_eq gens }
  have run := F _ kinI (nsI hns) callerA [] s₁ H ⟨[.ref a], []⟩ [.ref a] [.ref a] _ _ rfl room e0 (bind s₁ (.ref a)) (.cons rfl .nil) h
  refine codeAny_mono run fun r s' z => ?_
  rcases r with e | (u | _ | _ | _)
  all_goals first | exact (none' H e s' z).elim | exact (show False from z).elim | skip
  obtain ⟨v, H', os, bare, un, hok', rv, q⟩ := z
  obtain rfl : v = .bl true := q
  cases (show _ = Value.bool true from rv)
  refine ⟨rfl, OldK.of_keep fun b o e => ?_, os, bare⟩
  cases q : H b with
  | none => exact un.keep b o e q (fun z => List.not_mem_nil (show b ∈ ([] : List Addr) from z)) List.not_mem_nil
  | some t =>
    rcases only b with z | ⟨ob, xs, z⟩
    · rw [q] at z
      cases z
    · have before := (hok b _ z).1
      rw [e] at before
      cases before
      exact (hok' b _ (un.frzs b _ _ z)).1
end
/-- the law's own call, from its promise -/
theorem walk_ofG {l : PySem.W.OpenLaw} {n k : Nat} {q : Program} {loose : List Str} {XP : (Str → Option Value) → Heap → Prop} {YP : World → Heap → Prop} {d : DefRec} {K : Params → PySem.W.Frag} {sp : World → Sp} {x : Str}
    (hn : l.most = some n) (hn2 : n ≤ sizeLine) (hdf : d.params.defaults = []) (room : Room k callerA) (hY : ∀ (w : World) (h : Heap), YP w h → (K w.params).In h)
    (F : ∀ (w : World) (mg : Str → Option Value) (fa : Addr) (h : Heap), (K w.params).In h → h.Ns mainGlobals mg → mg d.name = some (.ref fa) →
      ∃ fd : FuncData, (∀ (s : Shared) (u : Value), BindsTo s fd ⟨[u], []⟩ [(x, u)]) ∧ ∀ base : Heap, (K w.params).In base → base.Ns mainGlobals mg → FnG l.prog w (K w.params) mg base CX0 k fa fd [x] (sp w))
    (hsp : ∀ (w : World) (H : Hp) (a : Addr) (ns : List Int), ns.length ≤ n → Only H → SqL (K w.params) H a (ns.map V.int) → sp w [.ref a] H (fun v _ => v = .bl true) fun _ _ _ => False) :
    PySem.W.WalkO q loose XP YP l.row.toRowW d [] (fun f vs => PySem.call f vs) := by
  refine Att.attach_call hn hdf fun w s₀ s₁ mg mb fa o pm cd doc a vs ns G Y _ _ _ hmg obj hints short gens => ?_
  have kin := hY w _ Y
  obtain ⟨fd, bind, hF⟩ := F w mg fa _ kin G.T.g hmg
  have rv := vals_ints hints
  have lz : (ns.map V.int).length ≤ sizeLine := by rw [List.length_map]; exact Nat.le_trans short hn2
  have go : ∀ {H : Hp}, Only H → SqL (K w.params) H a (ns.map V.int) → HOk l.prog w H s₁.heap → (∀ b, H b ≠ none → b = a) → (H a ≠ none → (K w.params).lookup a = none) → _ :=
    fun {H} only seq hok at_a not_K => core kin G.T.g G.T.b G.T.builtins G.T.nolimit gens obj room hF bind (fun _ _ _ z => z) only (hsp w H a ns short only seq) hok at_a not_K
  cases hk : (K w.params).lookup a with
  | some u =>
    have e := kin a u hk
    rw [obj] at e
    cases e
    exact go (H := fun _ => none) (fun _ => .inl rfl) (.inr ⟨_, vs.toArray, _, hk, rfl, rfl, rfl, by rw [List.size_toArray, hints.length]; exact Nat.le_trans short hn2, by simpa using rv⟩)
      (fun b u z => nomatch (show (none : Option HO) = some u from z)) (fun b z => absurd rfl z) fun z => absurd rfl z
  | none =>
    let fz : HO := .frz { cls := .type "list", data := .seq vs.toArray } (.lst (ns.map V.int))
    have at_ : ∀ b, (upd (fun _ => none) a fz) b ≠ none → b = a := fun b z => by
      by_cases hb : b = a
      · exact hb
      · exact absurd (upd_ne hb) z
    refine go (H := upd (fun _ => none) a fz) (fun b => ?_) (.inl (.inr ⟨_, upd_same⟩)) (fun b u z => ?_) at_ fun _ => hk
    · by_cases hb : b = a
      · rw [hb]
        exact .inr ⟨_, _, upd_same⟩
      · exact .inl (upd_ne hb)
    · obtain rfl := at_ b (by rw [z]; exact fun q => nomatch q)
      rw [upd_same] at z
      cases z
      exact ⟨obj, lz, vs, _, rv, obj⟩
end XG

set_option Elab.async false
set_option linter.all false
set_option maxRecDepth 100000
set_option maxHeartbeats 4000000
namespace L2
open PySem PySem.Spec PyProof.Rows
/-! ### what a value shows -/
mutual
/-- v is the datum d in H; nothing of it stands at p -/
inductive Dq (p : Addr) (H : Hp) : V → PyData → Prop
  | non : Dq p H .non .none
  | bl (b : Bool) : Dq p H (.bl b) (.bool b)
  | int (i : Int) : Dq p H (.int i) (.int i)
  | str (x : Str) : Dq p H (.str x) (.str x)
  | lst {a : Addr} {xs : List V} {ds : List PyData} : H a = some (.lst xs) → a ≠ p → a ≠ sysModules → DqAll p H xs ds → Dq p H (.ref a) (.list ds)
  | tup {a : Addr} {xs : List V} {ds : List PyData} : H a = some (.tup xs) → a ≠ p → DqAll p H xs ds → Dq p H (.ref a) (.tuple ds)
  | dct {a : Addr} : H a = some (.dK []) → a ≠ p → Dq p H (.ref a) (.dict [])
inductive DqAll (p : Addr) (H : Hp) : List V → List PyData → Prop
  | nil : DqAll p H [] []
  | cons {v : V} {vs : List V} {d : PyData} {ds : List PyData} : Dq p H v d → DqAll p H vs ds → DqAll p H (v :: vs) (d :: ds)
end
mutual
theorem Dq.ex {p : Addr} {H H' : Hp} (e : ∀ b o, H b = some o → b ≠ p → H' b = some o) : ∀ {v : V} (d : PyData), Dq p H v d → Dq p H' v d
  | _, .none, .non => .non
  | _, .bool b, .bl _ => .bl b
  | _, .int i, .int _ => .int i
  | _, .str x, .str _ => .str x
  | _, .list _, .lst h m n a => .lst (e _ _ h m) m n (DqAll.ex e _ a)
  | _, .tuple _, .tup h m a => .tup (e _ _ h m) m (DqAll.ex e _ a)
  | _, .dict _, .dct h m => .dct (e _ _ h m) m
theorem DqAll.ex {p : Addr} {H H' : Hp} (e : ∀ b o, H b = some o → b ≠ p → H' b = some o) : ∀ {vs : List V} (ds : List PyData), DqAll p H vs ds → DqAll p H' vs ds
  | _, [], .nil => .nil
  | _, _ :: _, .cons h t => .cons (Dq.ex e _ h) (DqAll.ex e _ t)
end
section
variable {X : Cx} {pins : List (Addr × Obj)} {σ : St} {H : Hp} {s : Shared} {q : Addr}
mutual
theorem Dq.reads (I : Inv X pins σ H s) : ∀ (d : PyData) (v : V) (u : Value), Dq q H v d → RelV v u → ∃ as, Reads s.heap u d as ∧ sysModules ∉ as
  | .none, _, _, h, r => by
    cases h
    cases r
    exact ⟨_, Reads.none, List.not_mem_nil⟩
  | .bool b, _, _, h, r => by
    cases h
    cases r
    exact ⟨_, Reads.bool b, List.not_mem_nil⟩
  | .int i, _, _, h, r => by
    cases h
    obtain ⟨t, rfl⟩ := r
    exact ⟨_, Reads.int i t, List.not_mem_nil⟩
  | .str x, _, _, h, r => by
    cases h
    obtain ⟨t, rfl⟩ := r
    exact ⟨_, Reads.str x t, List.not_mem_nil⟩
  | .list ds, _, _, h, r => by
    cases h with
    | lst hs _ n ha =>
      cases r
      obtain ⟨_, its, m, rv, g⟩ := (show ObjOk X.prog X.w H s.heap _ (.lst _) from I.hok _ _ hs)
      obtain ⟨as, hr, hn⟩ := DqAll.reads I ds _ its ha rv
      exact ⟨_, Reads.list g rfl rfl (by simpa using hr), fun z => by
        rcases List.mem_cons.mp z with z | z
        · exact n z.symm
        · exact hn z⟩
  | .tuple ds, _, _, h, r => by
    cases h with
    | tup hs _ ha =>
      cases r
      obtain ⟨_, its, rv, o, g, c, n, dt⟩ := (show ObjOk X.prog X.w H s.heap _ (.tup _) from I.hok _ _ hs)
      obtain ⟨as, hr, hn⟩ := DqAll.reads I ds _ its ha rv
      exact ⟨_, Reads.tuple g c dt (by simpa using hr), hn⟩
  | .dict [], _, _, h, r => by
    cases h with
    | @dct a hs _ =>
      cases r
      obtain ⟨_, ne, vs, rel, o, es, ep, g, ty, dt, hk⟩ := dk_of I.hok hs
      cases rel
      obtain ⟨_, prs, _⟩ := hk
      have z : es.toList = [] := by
        cases h0 : es.toList with
        | nil => rfl
        | cons a r =>
          rw [h0] at prs
          cases prs
      have z2 : es = #[] := Array.toList_inj.mp z
      subst z2
      exact ⟨_, Reads.dict (as := []) (bs := []) g ty.1 dt .nil .nil, fun q => by
        have q' : sysModules = a := by simpa using q
        exact absurd q'.symm (beq_eq_false_iff_ne.mp ne)⟩
  | .dict (_ :: _), _, _, h, _ => by cases h
theorem DqAll.reads (I : Inv X pins σ H s) : ∀ (ds : List PyData) (vs : List V) (us : List Value), DqAll q H vs ds → Vals vs us → ∃ as, ReadsAll s.heap us ds as ∧ sysModules ∉ as
  | [], _, _, h, r => by
    cases h
    cases r
    exact ⟨_, ReadsAll.nil, List.not_mem_nil⟩
  | d :: ds, _, _, h, r => by
    cases h with
    | cons h1 h2 =>
      cases r with
      | cons r1 r2 =>
        obtain ⟨as, a1, n1⟩ := Dq.reads I d _ _ h1 r1
        obtain ⟨bs, a2, n2⟩ := DqAll.reads I ds _ _ h2 r2
        exact ⟨_, ReadsAll.cons a1 a2, fun z => (List.mem_append.mp z).elim n1 n2⟩
end
/-- repr(v) -/
def rRepr : List V → Hp → VK → Prop := fun xs H Q => ∃ (p : Addr) (v : V) (d : PyData), xs = [v] ∧ Dq p H v d ∧ d.showable = true ∧ d.depth ≤ 60 ∧ d.shown.length ≤ 100000 ∧ Q (.str d.shown) H
theorem call_reprG (hg : X.A.guards = some []) (hu : X.A.units + 64 < cLine) : CallR X (.builtin "repr") rRepr := by
  intro pins s σ H xs us Q I r h
  obtain ⟨p, v, d, rfl, hd, sh, dp, sz, q⟩ := h
  obtain ⟨u, rfl, ru⟩ := vals1 r
  have sz' : d.shown.length ≤ sizeLine := by rw [sizeLine_eq]; omega
  have by_ref : ∀ a : Addr, u = .ref a → wpAny (model X.prog X.w) X.A (call (.builtin "repr") [u]) (EP X pins σ Q) X.xe s := by
    rintro a rfl
    obtain ⟨as, rd, nm⟩ := hd.reads I d v _ ru
    exact repr_of_reads' rd sh (fun _ => nm) hg (by omega) (fun _ _ z => z) (fun h' u tk hk => ⟨.str _, H, I.kept (t' := tk) hk, ⟨u, rfl⟩, q⟩) sz'
  cases hd with
  | non =>
    cases ru
    exact PySem.P.repr_of_none ⟨.str _, H, I.tok _, ⟨_, rfl⟩, q⟩
  | bl b =>
    cases ru
    refine PySem.P.repr_of_bool ⟨.str _, H, I.tok _, ⟨_, rfl⟩, ?_⟩
    cases b <;> exact q
  | int i =>
    obtain ⟨t, rfl⟩ := ru
    exact PySem.P.repr_of_int (of_decide_eq_true sh) ⟨.str _, H, I.tok _, ⟨_, rfl⟩, q⟩
  | str x =>
    obtain ⟨t, rfl⟩ := ru
    exact PySem.P.repr_of_str ⟨.str _, H, I.tok _, ⟨_, rfl⟩, q⟩ (hsz := sz')
  | lst _ _ _ _ => exact by_ref _ ru
  | tup _ _ _ => exact by_ref _ ru
  | dct _ _ => exact by_ref _ ru
/-- [a, b, ..], told that it is not the table of modules -/
def tLstN (t : TA) : TE := fun σ H Q => t σ H fun xs H1 => xs.length ≤ sizeLine ∧ ∀ p, H1 p = none → p ≠ sysModules → Q (.ref p) (upd H1 p (.lst xs))
theorem pe_lstN {es : List Expr} {t : TA} {pos : Pos} (h : PA X es t) : PE X (.List es pos) (tLstN t) := by
  refine ⟨fun pins s σ H Q I hq => wpAny_List_spliced (thn (h.run pos pins s σ H _ I hq) fun us s1 ⟨xs, H1, I1, r, z, q⟩ => ⟨r.length ▸ z, ?_⟩)⟩
  have big : sysModules < s1.heap.objs.size := I1.big
  refine ⟨.ref s1.heap.objs.size, _, I1.laid (t' := s1.toks) (fun b u e => Heap.get?_push_of_some _ e) (Nat.le_refl _) ?_, rfl, q _ (I1.hok.fresh (Nat.le_refl _)) (Nat.ne_of_gt big)⟩
  exact ⟨z, us, 0, r, Heap.get?_push_size _ rfl⟩
variable {C : Addr} {x : Str} {p pos : Pos} {e : Expr} {es : List Expr} {t : TA} {bmB : List Value} {B newId initId : String}
/-- C(), C an own exception class without __init__ -/
def tExc0 (C : Addr) : TE := fun _ H Q => ∀ a, H a = none → Q (.ref a) (upd H a (exo a C none))
theorem pe_excv0 (F : ExcBaseFacts B newId initId bmB) (q : PySem.W.excIn X.K C bmB newId = true) (gC : X.mg x = some (.ref C)) (kC : PySem.W.keepIn X.K (.ref C) = true) (hg : Gl X x) (hdb : (x == ("__debug__" : Str)) = false := by decide) :
    PE X (.Call (.Name x p) [] [] pos) (tExc0 C) := by
  refine ⟨fun pins s σ H Q I h => wpAny_Call_Name_kw (ld_glob I hg gC ?_ hdb)⟩
  exact PySem.W.callWith_K0 I.kIn kC (run_exc (us := []) F q I (by decide) h)
/-- C(e) of such a class -/
def tExc1 (C : Addr) (te : TE) : TE := fun σ H Q => te σ H fun _ H1 => ∀ a, H1 a = none → Q (.ref a) (upd H1 a (exo a C none))
theorem pe_excv1 {te : TE} (F : ExcBaseFacts B newId initId bmB) (q : PySem.W.excIn X.K C bmB newId = true) (gC : X.mg x = some (.ref C)) (kC : PySem.W.keepIn X.K (.ref C) = true) (hg : Gl X x) (he : PE X e te)
    (hs : starEach [e] X.env = (false, eval e X.env) :: starEach [] X.env := by rfl) (hdb : (x == ("__debug__" : Str)) = false := by decide) : PE X (.Call (.Name x p) [e] [] pos) (tExc1 C te) := by
  refine ⟨fun pins s σ H Q I h => wpAny_Call_Name_kw (ld_glob I hg gC ?_ hdb)⟩
  refine PySem.W.callWith_K (h₀ := X.base) I.ok.mod.kin kC ?_ hs (by rfl)
  rw [hs]
  show wpAny _ _ (spliced ((false, eval e X.env) :: backTo pos (starEach [] X.env))) _ _ s
  refine Calls.spliced_cons (thn (he.run pins s σ H _ I h) fun u s1 ⟨v, H1, I1, r1, q1⟩ => Calls.spliced_nil ⟨I1.kIn, ?_⟩)
  exact run_exc (us := [u]) F q I1 (by show 1 ≤ 1000; decide) q1
end
/-! ### __init__(self, f): self.f = f -/
def spInit1 (K : PySem.W.Frag) (f : Str) : Sp := fun vs H Q _ => ∃ (a C : Addr) (y : V), vs = [.ref a, y] ∧ OexC K C ∧ PySem.W.findIn K (.ref C) f = some none ∧ H a = some (exo a C none) ∧
  ∀ d, H d = none → d ≠ a → Q .non (upd (upd H d (exd d [(f, y)])) a (exo a C (some d)))
def spInit2 (K : PySem.W.Frag) (f g : Str) : Sp := fun vs H Q _ => ∃ (a C : Addr) (y z : V), vs = [.ref a, y, z] ∧ OexC K C ∧ PySem.W.findIn K (.ref C) f = some none ∧ PySem.W.findIn K (.ref C) g = some none ∧ H a = some (exo a C none) ∧
  ∀ d, H d = none → d ≠ a → Q .non (upd (upd (upd H d (exd d [(f, y)])) a (exo a C (some d))) d (exd d [(g, z), (f, y)]))
theorem vis_of {N Ps : List Str} {sc : Scope} (S : FnScope N Ps sc) {x : Str} (h : x ∈ Ps) : Vis sc x := by
  rcases S.par x h with e | e
  · exact Or.inl e
  · exact Or.inr (Or.inl e)
section
variable {P : Program} {w : World} {K : PySem.W.Frag} {mg : Str → Option Value} {base : Heap} {fI : Addr} {fd : FuncData} {qual f g : Str} {st : Stmt} {q1 q2 q3 q4 r1 r2 r3 r4 : Pos}
theorem ok_init1 (F : Fun K "__init__" qual st fI fd) (hb : defBody st = [.Assign [.Attribute (.Name "self" q1) f q2] (.Name f q3) q4]) (S : FnScope ["self", f] ["self", f] (defScope st))
    (hs : ∀ env : Env, swapsWith (.Name f q3) (some (.Attribute (.Name "self" q1) f q2)) q4.line env = pure false) (h1 : (f == ("__debug__" : Str)) = false) (h2 : (f == ("__classdict__" : Str)) = false) : FnOk P w K mg base CX0 1 fI fd ["self", f] (spInit1 K f) := by
  refine F.ok S (fun vs H Q E h => ?_) (fun cdv A outer s H vs Q E hr h => ?_)
  · obtain ⟨a, C, y, rfl, _⟩ := h
    rfl
  · obtain ⟨a, C, y, rfl, T, hf, ea, k⟩ := h
    rw [hb]
    refine ⟨_, pss_one (ps_ost (pe_var (i := 0) rfl (vis_of S (by simp))) (pe_var (i := 1) rfl (vis_of S (by simp)) h1 h2) (hs _)), ?_⟩
    exact ⟨_, rfl, _, rfl, a, C, rfl, T, hf, .inl ⟨ea, k⟩⟩
theorem ok_init2 (F : Fun K "__init__" qual st fI fd) (hb : defBody st = [.Assign [.Attribute (.Name "self" q1) f q2] (.Name f q3) q4, .Assign [.Attribute (.Name "self" r1) g r2] (.Name g r3) r4]) (S : FnScope ["self", f, g] ["self", f, g] (defScope st))
    (hs : ∀ env : Env, swapsWith (.Name f q3) (some (.Attribute (.Name "self" q1) f q2)) q4.line env = pure false) (hs2 : ∀ env : Env, swapsWith (.Name g r3) (some (.Attribute (.Name "self" r1) g r2)) r4.line env = pure false)
    (h1 : (f == ("__debug__" : Str)) = false) (h2 : (f == ("__classdict__" : Str)) = false) (h3 : (g == ("__debug__" : Str)) = false) (h4 : (g == ("__classdict__" : Str)) = false) : FnOk P w K mg base CX0 1 fI fd ["self", f, g] (spInit2 K f g) := by
  refine F.ok S (fun vs H Q E h => ?_) (fun cdv A outer s H vs Q E hr h => ?_)
  · obtain ⟨a, C, y, z, rfl, _⟩ := h
    rfl
  · obtain ⟨a, C, y, z, rfl, T, hf, hg, ea, k⟩ := h
    rw [hb]
    refine ⟨_, pss_cons (ps_ost (pe_var (i := 0) rfl (vis_of S (by simp))) (pe_var (i := 1) rfl (vis_of S (by simp)) h1 h2) (hs _))
      (pss_one (ps_ost (pe_var (i := 0) rfl (vis_of S (by simp))) (pe_var (i := 2) rfl (vis_of S (by simp)) h3 h4) (hs2 _))), ?_⟩
    refine ⟨_, rfl, _, rfl, a, C, rfl, T, hf, .inl ⟨ea, fun d hd ne => ?_⟩⟩
    exact ⟨_, rfl, _, rfl, a, C, rfl, T, hg, .inr ⟨d, [(f, y)], upd_same, by rw [upd_ne ne, upd_same], (by show 1 ≤ 900; decide), k d hd ne⟩⟩
/-- how a call with keywords binds: no defaults -/
theorem Fun.kbn {x : Str} {ps ks : List Str} {n : Nat} {gv : List Value → List Value → List Value} {gV : List V → List V → List V} (F : Fun K x qual st fI fd)
    (hrel : ∀ {vs : List V} {us : List Value} {zs : List V} {ws : List Value}, Vals vs us → Vals zs ws → Vals (gV vs zs) (gv us ws))
    (h : ∀ (kV doc pm : Value) (an : Option Addr) (cdv ct : Value) (us ws : List Value), us.length = n → ws.length = ks.length → bindArgs (PySem.W.fnOf x qual (defArgs st) (defBody st) (defScope st) .none kV doc pm an cdv ct) ⟨us, ks.zip ws⟩ = pure (ps.zip (gv us ws))) : KBn K fd ps n ks gv gV := by
  obtain ⟨oc, od, kV, doc, pm, an, cdv, ct, osl, rfl, lk, hcd⟩ := F.ex
  exact ⟨fun s us ws X l1 l2 => .of_eq (h kV doc pm an cdv ct us ws l1 l2), hrel⟩
end
end L2

set_option Elab.async false
set_option linter.all false
set_option maxRecDepth 100000
set_option maxHeartbeats 4000000
/-! What an expression leaves, by a property that lasts. -/
namespace EvP
open PySem L2
def Ex (H H' : Hp) : Prop := ∀ a o, H a = some o → H' a = some o
theorem Ex.refl (H : Hp) : Ex H H := fun _ _ h => h
theorem Ex.trans {H H1 H2 : Hp} (a : Ex H H1) (b : Ex H1 H2) : Ex H H2 := fun x o h => b x o (a x o h)
theorem Ex.new {H : Hp} {p : Addr} {o : HO} (h : H p = none) : Ex H (upd H p o) := fun a u e => by rw [upd_ne (ne_of_none e h)]; exact e
theorem Ex.back {H H' : Hp} (e : Ex H H') {p : Addr} (h : H' p = none) : H p = none := by
  cases h1 : H p with
  | none => rfl
  | some o =>
    rw [e p o h1] at h
    cases h
/-- a property of a value that lasts while objects are only added -/
structure PR where
  R : V → Hp → Prop
  mono : ∀ v H H', Ex H H' → R v H → R v H'
/-- te gives a value with R, and only adds -/
def Gives (te : TE) (σ : St) (H : Hp) (P : PR) : Prop := ∀ H1, Ex H H1 → ∀ Q : VK, (∀ v H2, Ex H1 H2 → P.R v H2 → Q v H2) → te σ H1 Q
inductive All2 (H : Hp) : List PR → List V → Prop
  | nil : All2 H [] []
  | cons {P : PR} {Ps : List PR} {v : V} {vs : List V} : P.R v H → All2 H Ps vs → All2 H (P :: Ps) (v :: vs)
theorem All2.ex {H H' : Hp} (e : Ex H H') : ∀ {Ps : List PR} {vs : List V}, All2 H Ps vs → All2 H' Ps vs
  | _, _, .nil => .nil
  | _, _, .cons h t => .cons (PR.mono _ _ _ _ e h) (All2.ex e t)
theorem All2.length {H : Hp} : ∀ {Ps : List PR} {vs : List V}, All2 H Ps vs → vs.length = Ps.length
  | _, _, .nil => rfl
  | _, _, .cons _ t => congrArg Nat.succ (All2.length t)
theorem All2.append {H : Hp} : ∀ {Ps Qs : List PR} {vs ws : List V}, All2 H Ps vs → All2 H Qs ws → All2 H (Ps ++ Qs) (vs ++ ws)
  | _, _, _, _, .nil, k => k
  | _, _, _, _, .cons h t, k => .cons h (All2.append t k)
theorem All2.get {H : Hp} : ∀ {Ps : List PR} {vs : List V} {i : Nat} {P : PR}, All2 H Ps vs → Ps[i]? = some P → ∃ v, vs[i]? = some v ∧ P.R v H
  | _, _, _, _, .nil, e => by simp at e
  | _, _, 0, _, .cons h _, e => by
    simp at e
    subst e
    exact ⟨_, rfl, h⟩
  | _, _, i + 1, _, .cons _ t, e => by
    obtain ⟨v, h1, h2⟩ := All2.get (i := i) t (by simpa using e)
    exact ⟨v, by simpa using h1, h2⟩
def GivesA (ta : TA) (σ : St) (H : Hp) (Ps : List PR) : Prop := ∀ H1, Ex H H1 → ∀ Q : List V → Hp → Prop, (∀ vs H2, Ex H1 H2 → All2 H2 Ps vs → Q vs H2) → ta σ H1 Q
/-- this very value -/
def is (v : V) : PR := ⟨fun u _ => u = v, fun _ _ _ _ h => h⟩
/-- a tuple of such -/
def tup (Ps : List PR) : PR := ⟨fun u H => ∃ a vs, u = .ref a ∧ H a = some (.tup vs) ∧ All2 H Ps vs, fun _ _ _ e ⟨a, vs, h1, h2, h3⟩ => ⟨a, vs, h1, e _ _ h2, h3.ex e⟩⟩
/-- a list of such, new over H0 -/
def lst (H0 : Hp) (Ps : List PR) : PR := ⟨fun u H => ∃ a vs, u = .ref a ∧ H a = some (.lst vs) ∧ H0 a = none ∧ All2 H Ps vs, fun _ _ _ e ⟨a, vs, h1, h2, h0, h3⟩ => ⟨a, vs, h1, e _ _ h2, h0, h3.ex e⟩⟩
/-- the same, and not the table of modules -/
def lstN (H0 : Hp) (Ps : List PR) : PR := ⟨fun u H => ∃ a vs, u = .ref a ∧ H a = some (.lst vs) ∧ H0 a = none ∧ a ≠ sysModules ∧ All2 H Ps vs, fun _ _ _ e ⟨a, vs, h1, h2, h0, hn, h3⟩ => ⟨a, vs, h1, e _ _ h2, h0, hn, h3.ex e⟩⟩
/-- an exception of the class at C with these fields -/
def err (C : Addr) (fs : List (Str × V)) : PR := ⟨fun u H => ∃ a, u = .ref a ∧ ErrAt H a C fs, fun _ _ _ e ⟨a, h1, h2⟩ => ⟨a, h1, h2.ex e⟩⟩
section
variable {K : PySem.W.Frag} {σ : St} {H : Hp} {te tf : TE} {ta tb : TA} {P : PR} {Ps Qs : List PR} {v : V} {i : Nat} {C fI : Addr} {f g : Str} {x y z : V}
theorem var (h : σ[i]? = some (some v)) : Gives (tVar i) σ H (is v) := fun H1 _ _ q => ⟨v, h, q _ _ (Ex.refl H1) rfl⟩
theorem cst : Gives (tC v) σ H (is v) := fun H1 _ _ q => q _ _ (Ex.refl H1) rfl
theorem nil : GivesA tNil σ H [] := fun H1 _ _ q => q _ _ (Ex.refl H1) .nil
theorem cons (h : Gives te σ H P) (t : GivesA ta σ H Ps) : GivesA (tCons te ta) σ H (P :: Ps) := fun H1 e Q q =>
  h H1 e _ fun v H2 e2 hv => t H2 (e.trans e2) _ fun vs H3 e3 hs => q _ _ (e2.trans e3) (.cons (P.mono _ _ _ e3 hv) hs)
theorem tuple (h : GivesA ta σ H Ps) (hl : Ps.length ≤ 1000) : Gives (tTup ta) σ H (tup Ps) := fun H1 e Q q =>
  h H1 e _ fun vs H2 e2 hs => ⟨by rw [hs.length, sizeLine_eq]; omega, fun p hp => q _ _ (e2.trans (Ex.new hp)) ⟨p, vs, rfl, upd_same, hs.ex (Ex.new hp)⟩⟩
theorem list {H0 : Hp} (e0 : Ex H0 H) (h : GivesA ta σ H Ps) (hl : Ps.length ≤ 1000) : Gives (tLst ta) σ H (lst H0 Ps) := fun H1 e Q q =>
  h H1 e _ fun vs H2 e2 hs => ⟨by rw [hs.length, sizeLine_eq]; omega, fun p hp => q _ _ (e2.trans (Ex.new hp)) ⟨p, vs, rfl, upd_same, ((e0.trans e).trans e2).back hp, hs.ex (Ex.new hp)⟩⟩
theorem listN {H0 : Hp} (e0 : Ex H0 H) (h : GivesA ta σ H Ps) (hl : Ps.length ≤ 1000) : Gives (tLstN ta) σ H (lstN H0 Ps) := fun H1 e Q q =>
  h H1 e _ fun vs H2 e2 hs => ⟨by rw [hs.length, sizeLine_eq]; omega, fun p hp hn => q _ _ (e2.trans (Ex.new hp)) ⟨p, vs, rfl, upd_same, ((e0.trans e).trans e2).back hp, hn, hs.ex (Ex.new hp)⟩⟩
/-- xs + ys, both new -/
theorem cat {H0 : Hp} (e0 : Ex H0 H) (h : Gives te σ H (lst H0 Ps)) (k : Gives tf σ H (lst H0 Qs)) (hl : Ps.length + Qs.length ≤ 1000) : Gives (tOp rCat te tf) σ H (lst H0 (Ps ++ Qs)) := fun H1 e Q q => by
  refine h H1 e _ fun v H2 e2 hv => k H2 (e.trans e2) _ fun u H3 e3 hu => ?_
  obtain ⟨a, vs, rfl, ha, na, va⟩ := (lst H0 Ps).mono _ _ _ e3 hv
  obtain ⟨b, ws, rfl, hb, nb, vb⟩ := hu
  refine ⟨a, b, vs, ws, rfl, rfl, ha, hb, by rw [va.length, vb.length, sizeLine_eq]; omega, fun p hp => ?_⟩
  exact q _ _ ((e2.trans e3).trans (Ex.new hp)) ⟨p, _, rfl, upd_same, (((e0.trans e).trans e2).trans e3).back hp, (va.append vb).ex (Ex.new hp)⟩
theorem varP (h : σ[i]? = some (some v)) (hp : P.R v H) : Gives (tVar i) σ H P := fun H1 e _ q => ⟨v, h, q _ _ (Ex.refl H1) (P.mono _ _ _ e hp)⟩
/-- C(e): the one field -/
theorem err1 {gV : List V → List V → List V} (T : OexC K C) (hf : PySem.W.findIn K (.ref C) f = some none) (h : Gives te σ H (is y)) (hg : ∀ a u, gV [.ref a, u] [] = [.ref a, u]) : Gives (tMkV C 1 0 (spInit1 K f) gV E0 (tCons te tNil) tNil) σ H (err C [(f, y)]) := fun H1 e Q q =>
  h H1 e _ fun v H2 e2 hv => ⟨rfl, rfl, fun a ha => by
    rw [hg, show v = y from hv]
    refine ⟨a, C, y, rfl, T, hf, upd_same, fun d hd ne => ⟨rfl, q _ _ (e2.trans ?_) ⟨a, rfl, .inr ⟨d, upd_same, by rw [upd_ne ne, upd_same]⟩⟩⟩⟩
    have hd' : H2 d = none := by rw [upd_ne ne] at hd; exact hd
    intro b o z
    rw [upd_ne (ne_of_none z ha), upd_ne (ne_of_none z hd'), upd_ne (ne_of_none z ha)]
    exact z⟩
/-- C(f = e) -/
theorem err1K {gV : List V → List V → List V} (T : OexC K C) (hf : PySem.W.findIn K (.ref C) f = some none) (h : Gives te σ H (is y)) (hg : ∀ a u, gV [.ref a] [u] = [.ref a, u]) : Gives (tMkV C 0 1 (spInit1 K f) gV E0 tNil (tCons te tNil)) σ H (err C [(f, y)]) := fun H1 e Q q =>
  h H1 e _ fun v H2 e2 hv => ⟨rfl, rfl, fun a ha => by
    rw [hg, show v = y from hv]
    refine ⟨a, C, y, rfl, T, hf, upd_same, fun d hd ne => ⟨rfl, q _ _ (e2.trans ?_) ⟨a, rfl, .inr ⟨d, upd_same, by rw [upd_ne ne, upd_same]⟩⟩⟩⟩
    have hd' : H2 d = none := by rw [upd_ne ne] at hd; exact hd
    intro b o z
    rw [upd_ne (ne_of_none z ha), upd_ne (ne_of_none z hd'), upd_ne (ne_of_none z ha)]
    exact z⟩
theorem init2_end {H1 H2 : Hp} {Q : VK} {a d : Addr} (e : Ex H1 H2) (ha : H2 a = none) (hd : upd H2 a (exo a C none) d = none) (ne : d ≠ a) (q : ∀ v H3, Ex H1 H3 → (err C [(g, z), (f, y)]).R v H3 → Q v H3) :
    Q (.ref a) (upd (upd (upd (upd H2 a (exo a C none)) d (exd d [(f, y)])) a (exo a C (some d))) d (exd d [(g, z), (f, y)])) := by
  have hd' : H2 d = none := by rw [upd_ne ne] at hd; exact hd
  refine q _ _ (e.trans fun b o w => ?_) ⟨a, rfl, .inr ⟨d, by rw [upd_ne ne.symm, upd_same], upd_same⟩⟩
  rw [upd_ne (ne_of_none w hd'), upd_ne (ne_of_none w ha), upd_ne (ne_of_none w hd'), upd_ne (ne_of_none w ha)]
  exact w
/-- C(f = e, g = e') in the written order of the two -/
theorem err2K {gV : List V → List V → List V} (T : OexC K C) (hf : PySem.W.findIn K (.ref C) f = some none) (hg0 : PySem.W.findIn K (.ref C) g = some none) (h : Gives te σ H (is z)) (k : Gives tf σ H (is y))
    (hg : ∀ a u w, gV [.ref a] [u, w] = [.ref a, w, u]) : Gives (tMkV C 0 2 (spInit2 K f g) gV E0 tNil (tCons te (tCons tf tNil))) σ H (err C [(g, z), (f, y)]) := fun H1 e Q q =>
  h H1 e _ fun v H2 e2 hv => k H2 (e.trans e2) _ fun u H3 e3 hu => ⟨rfl, rfl, fun a ha => by
    rw [hg, show v = z from hv, show u = y from hu]
    exact ⟨a, C, y, z, rfl, T, hf, hg0, upd_same, fun d hd ne => ⟨rfl, init2_end (e2.trans e3) ha hd ne q⟩⟩⟩
/-- C(e, g = e') -/
theorem err2P {gV : List V → List V → List V} (T : OexC K C) (hf : PySem.W.findIn K (.ref C) f = some none) (hg0 : PySem.W.findIn K (.ref C) g = some none) (h : Gives te σ H (is y)) (k : Gives tf σ H (is z))
    (hg : ∀ a u w, gV [.ref a, u] [w] = [.ref a, u, w]) : Gives (tMkV C 1 1 (spInit2 K f g) gV E0 (tCons te tNil) (tCons tf tNil)) σ H (err C [(g, z), (f, y)]) := fun H1 e Q q =>
  h H1 e _ fun v H2 e2 hv => k H2 (e.trans e2) _ fun u H3 e3 hu => ⟨rfl, rfl, fun a ha => by
    rw [hg, show v = y from hv, show u = z from hu]
    exact ⟨a, C, y, z, rfl, T, hf, hg0, upd_same, fun d hd ne => ⟨rfl, init2_end (e2.trans e3) ha hd ne q⟩⟩⟩
theorem err0 : Gives (tExc0 C) σ H (err C []) := fun H1 _ Q q a ha => q _ _ (Ex.new ha) ⟨a, rfl, .inl ⟨rfl, upd_same⟩⟩
variable {u : TS} {D : Ends}
theorem st_set (h : Gives te σ H P) (k : ∀ v H1, Ex H H1 → P.R v H1 → u D (σ.set i (some v)) H1) : tSeq (tAsg te (gName i)) u D σ H := h H (Ex.refl H) _ k
theorem go {Q : VK} (h : Gives te σ H P) (k : ∀ v H1, Ex H H1 → P.R v H1 → Q v H1) : te σ H Q := h H (Ex.refl H) _ k
theorem st_ret (h : Gives te σ H P) (k : ∀ v H1, Ex H H1 → P.R v H1 → D.rt v H1) : tRet te D σ H := h H (Ex.refl H) _ k
end
end EvP

set_option Elab.async false
set_option linter.all false
set_option maxRecDepth 100000
set_option maxHeartbeats 4000000
/-! Whole numbers from 0 on and their texts. -/
namespace Dg
open PySem PySem.NumText
/-- the signs of a number -/
def dl (n : Nat) : List Nat := (Nat.toDigits 10 n).map Char.toNat
theorem dc : ∀ d, d < 10 → (Nat.digitChar d).toNat = 48 + d := by decide
theorem dl_lt {n : Nat} (h : n < 10) : dl n = [48 + n] := by
  unfold dl
  rw [Nat.toDigits_of_lt_base h]
  exact congrArg (fun x => [x]) (dc n h)
theorem dl_ge {n : Nat} (h : 10 ≤ n) : dl n = dl (n / 10) ++ [48 + n % 10] := by
  unfold dl
  rw [Nat.toDigits_of_base_le (by decide) h, List.map_append]
  exact congrArg (fun x => _ ++ [x]) (dc _ (Nat.mod_lt _ (by decide)))
theorem dl_ten {v d : Nat} (hv : 0 < v) (hd : d < 10) : dl (v * 10 + d) = dl v ++ [48 + d] := by
  rw [dl_ge (by omega), show (v * 10 + d) / 10 = v by omega, show (v * 10 + d) % 10 = d by omega]
theorem dl_ne (n : Nat) : dl n ≠ [] := by
  intro h
  exact Nat.toDigits_ne_nil (List.map_eq_nil_iff.mp h)
/-- k signs of a number -/
def pad : Nat → Nat → List Nat
  | 0, _ => []
  | k + 1, n => pad k (n / 10) ++ [48 + n % 10]
theorem pad_len : ∀ k n, (pad k n).length = k
  | 0, _ => rfl
  | k + 1, n => by
    show (pad k (n / 10) ++ _).length = _
    rw [List.length_append, pad_len k]
    rfl
theorem pad_zero : ∀ k, pad k 0 = List.replicate k 48
  | 0 => rfl
  | k + 1 => by
    show pad k (0 / 10) ++ [48] = _
    rw [show 0 / 10 = 0 from rfl, pad_zero k, List.replicate_succ']
/-- a text of at most k signs, filled up -/
theorem pad_dl : ∀ (k n : Nat), n < 10 ^ (k + 1) → (dl n).length ≤ k + 1 ∧ List.replicate (k + 1 - (dl n).length) 48 ++ dl n = pad (k + 1) n
  | 0, n, h => by
    have h' : n < 10 := h
    rw [dl_lt h']
    refine ⟨Nat.le_refl _, ?_⟩
    show [48 + n] = [48 + n % 10]
    rw [Nat.mod_eq_of_lt h']
  | k + 1, n, h => by
    by_cases c : n < 10
    · rw [dl_lt c]
      refine ⟨by show 1 ≤ _; omega, ?_⟩
      show List.replicate (k + 1 + 1 - 1) 48 ++ [48 + n] = pad (k + 1) (n / 10) ++ [48 + n % 10]
      rw [Nat.mod_eq_of_lt c, show n / 10 = 0 by omega, pad_zero]
      rfl
    · obtain ⟨l, e⟩ := pad_dl k (n / 10) (by rw [Nat.pow_succ] at h; omega)
      rw [dl_ge (by omega), List.length_append]
      refine ⟨by show (dl (n / 10)).length + 1 ≤ _; omega, ?_⟩
      show List.replicate (k + 1 + 1 - ((dl (n / 10)).length + 1)) 48 ++ (dl (n / 10) ++ _) = pad (k + 1) (n / 10) ++ [48 + n % 10]
      rw [← e, List.append_assoc, show k + 1 + 1 - ((dl (n / 10)).length + 1) = k + 1 - (dl (n / 10)).length by omega]
theorem dl_pad : ∀ (k q r : Nat), 0 < q → r < 10 ^ k → dl (q * 10 ^ k + r) = dl q ++ pad k r
  | 0, q, r, _, hr => by
    have : r = 0 := by simpa using hr
    subst this
    show dl (q * 1 + 0) = dl q ++ []
    rw [List.append_nil, Nat.mul_one, Nat.add_zero]
  | k + 1, q, r, hq, hr => by
    have e : q * 10 ^ (k + 1) + r = (q * 10 ^ k + r / 10) * 10 + r % 10 := by
      rw [Nat.pow_succ, ← Nat.mul_assoc]
      omega
    have hp : 0 < q * 10 ^ k := Nat.mul_pos hq (Nat.pow_pos (by decide))
    rw [e, dl_ten (by omega) (Nat.mod_lt _ (by decide)), dl_pad k q (r / 10) hq (by rw [Nat.pow_succ] at hr; omega), List.append_assoc]
    rfl
theorem val_snoc (cs : List Nat) (c : Nat) : digitsVal (cs ++ [c]) = digitsVal cs * 10 + (c - 48) := by
  unfold digitsVal
  rw [List.foldl_append]
  rfl
theorem val_from : ∀ (cs : List Nat) (a : Nat), cs.foldl (fun acc c => acc * 10 + (c - 48)) a = a * 10 ^ cs.length + digitsVal cs
  | [], a => by show a = a * 1 + 0; omega
  | c :: cs, a => by
    rw [List.foldl_cons, val_from cs]
    unfold digitsVal
    rw [List.foldl_cons, val_from cs (0 * 10 + (c - 48)), List.length_cons, Nat.pow_succ, Nat.zero_mul, Nat.zero_add, Nat.add_mul, Nat.mul_assoc, Nat.mul_comm 10]
    unfold digitsVal
    omega
theorem val_app (xs ys : List Nat) : digitsVal (xs ++ ys) = digitsVal xs * 10 ^ ys.length + digitsVal ys := by
  unfold digitsVal
  rw [List.foldl_append, val_from]
  rfl
theorem val_cons (c : Nat) (cs : List Nat) : digitsVal (c :: cs) = (c - 48) * 10 ^ cs.length + digitsVal cs := by
  rw [show c :: cs = [c] ++ cs from rfl, val_app]
  congr 2
  show 0 * 10 + (c - 48) = _
  omega
theorem val_lt : ∀ {cs : List Nat}, AllDigits cs → digitsVal cs < 10 ^ cs.length
  | [], _ => by decide
  | c :: cs, h => by
    have i := val_lt h.tail
    have hc := h.head
    rw [val_cons, List.length_cons, Nat.pow_succ]
    have : (c - 48) * 10 ^ cs.length ≤ 9 * 10 ^ cs.length := Nat.mul_le_mul_right _ (by omega)
    omega
/-- digits that do not begin with 0 -/
structure Plain (cs : List Nat) : Prop where
  dig : AllDigits cs
  ne : cs ≠ []
  no : cs.head? ≠ some 48
theorem val_pos {cs : List Nat} (h : Plain cs) : 0 < digitsVal cs := by
  cases cs with
  | nil => exact absurd rfl h.ne
  | cons c cs =>
    have hc := h.dig.head
    have : c ≠ 48 := fun e => h.no (by rw [e]; rfl)
    rw [val_cons]
    have : 1 * 10 ^ cs.length ≤ (c - 48) * 10 ^ cs.length := Nat.mul_le_mul_right _ (by omega)
    have : 0 < 10 ^ cs.length := Nat.pow_pos (by decide)
    omega
theorem dl_val_rev : ∀ (rs : List Nat), Plain rs.reverse → dl (digitsVal rs.reverse) = rs.reverse
  | [], h => absurd rfl h.ne
  | c :: rs, h => by
    have hc : 48 ≤ c ∧ c ≤ 57 := h.dig c (by rw [List.reverse_cons]; exact List.mem_append_right _ (.head _))
    rw [List.reverse_cons, val_snoc]
    by_cases e : rs = []
    · subst e
      show dl (0 * 10 + (c - 48)) = [c]
      rw [dl_lt (by omega), Nat.zero_mul, Nat.zero_add]
      exact congrArg (fun x => [x]) (by omega)
    · have p : Plain rs.reverse := ⟨fun x hx => h.dig x (by rw [List.reverse_cons]; exact List.mem_append_left _ hx), by simpa using e, fun z => h.no (by
        rw [List.reverse_cons]
        cases hr : rs.reverse with
        | nil => rw [hr] at z; cases z
        | cons y ys => rw [hr] at z; exact z)⟩
      rw [dl_ten (val_pos p) (by omega), dl_val_rev rs p]
      exact congrArg (fun x => _ ++ [x]) (by omega)
theorem dl_val {cs : List Nat} (h : Plain cs) : dl (digitsVal cs) = cs := by
  have := dl_val_rev cs.reverse (by rw [List.reverse_reverse]; exact h)
  rw [List.reverse_reverse] at this
  exact this
/-! texts -/
/-- the text of a number -/
def numT (n : Int) : Str := Str.ofString (toString n)
def valT (x : Str) : Nat := digitsVal x.cps.toList
theorem ofNat_cps (n : Nat) : (Str.ofString (toString n)).cps.toList = dl n := by
  rw [Str.ofString_eq_toList]
  show (List.map Char.toNat (Nat.repr n).toList) = _
  rw [Nat.toList_repr]
  rfl
theorem numT_cps {n : Int} (h : 0 ≤ n) : (numT n).cps.toList = dl n.toNat := by
  obtain ⟨m, rfl⟩ := Int.eq_ofNat_of_zero_le h
  exact ofNat_cps m
theorem ext {a b : Str} (h : a.cps.toList = b.cps.toList) : a = b := by
  cases a
  cases b
  exact congrArg Str.mk (Array.toList_inj.mp h)
theorem app_cps (a b : Str) : (a ++ b).cps.toList = a.cps.toList ++ b.cps.toList := Array.toList_append
theorem len_cps (a : Str) : a.cps.toList.length = a.length := Array.length_toList
theorem numT_val {x : Str} (h : Plain x.cps.toList) : numT (valT x : Nat) = x := ext (by
  rw [numT_cps (Int.natCast_nonneg _)]
  exact dl_val h)
theorem dl_digits (n : Nat) : AllDigits (dl n) := by
  refine Nat.strongRecOn n fun n ih => ?_
  by_cases c : n < 10
  · rw [dl_lt c]
    intro x hx
    rw [List.mem_singleton] at hx
    omega
  · rw [dl_ge (by omega)]
    intro x hx
    rcases List.mem_append.mp hx with hx | hx
    · exact ih (n / 10) (by omega) x hx
    · rw [List.mem_singleton] at hx
      omega
theorem dl_head (n : Nat) (h : 0 < n) : (dl n).head? ≠ some 48 := by
  revert h
  refine Nat.strongRecOn n fun n ih h => ?_
  by_cases c : n < 10
  · rw [dl_lt c]
    simp
    omega
  · rw [dl_ge (by omega)]
    have i := ih (n / 10) (by omega) (by omega)
    intro z
    cases hr : dl (n / 10) with
    | nil => exact dl_ne _ hr
    | cons y ys => rw [hr] at z i; exact i z
theorem dl_plain {n : Nat} (h : 0 < n) : Plain (dl n) := ⟨dl_digits n, dl_ne n, dl_head n h⟩
theorem val_dl (n : Nat) : digitsVal (dl n) = n := by
  refine Nat.strongRecOn n fun n ih => ?_
  by_cases c : n < 10
  · rw [dl_lt c]
    show 0 * 10 + (48 + n - 48) = n
    omega
  · rw [dl_ge (by omega), val_snoc, ih (n / 10) (by omega)]
    omega
theorem valT_num {n : Int} (h : 0 ≤ n) : (valT (numT n) : Int) = n := by
  unfold valT
  rw [numT_cps h, val_dl]
  omega
/-- str(rest).zfill(64) -/
theorem zfill_cps {n : Nat} {k : Nat} (h : n < 10 ^ (k + 1)) : (Txt.zfill (Str.ofString (toString n)) ((k + 1 : Nat) : Int)).cps.toList = pad (k + 1) n := by
  obtain ⟨l, e⟩ := pad_dl k n h
  have hl : (Str.ofString (toString n)).length = (dl n).length := by rw [← len_cps, ofNat_cps]
  unfold Txt.zfill
  by_cases c : ((k + 1 : Nat) : Int) ≤ ((Str.ofString (toString n)).length : Nat)
  · rw [if_pos c, ofNat_cps]
    rw [← e, show k + 1 - (dl n).length = 0 by omega]
    rfl
  · rw [if_neg c]
    have hz : zfilled (Str.ofString (toString n)) (((k + 1 : Nat) : Int).toNat - (Str.ofString (toString n)).length) = Builtin.Str.padded (Str.ofString (toString n)) (((k + 1 : Nat) : Int).toNat - (Str.ofString (toString n)).length) 0 48 := by
      unfold zfilled
      have h0 : (Str.ofString (toString n)).cps[0]? = (dl n)[0]? := by rw [← ofNat_cps, Array.getElem?_toList]
      rw [h0]
      cases hd : dl n with
      | nil => exact absurd hd (dl_ne n)
      | cons y ys =>
        have hy : 48 ≤ y ∧ y ≤ 57 := dl_digits n y (by rw [hd]; exact .head _)
        show (match some y with | some 43 | some 45 => _ | _ => _) = _
        split
        · rename_i z
          cases z
          omega
        · rename_i z
          cases z
          omega
        · rfl
    rw [hz, ← e]
    show ((Array.replicate _ 48 ++ _ ++ Array.replicate _ _).toList) = _
    have h1 : (Str.ofString n.repr).cps.toList = dl n := ofNat_cps n
    have h2 : (Str.ofString n.repr).length = (dl n).length := hl
    simp [h1, h2]
end Dg

set_option Elab.async false
set_option linter.all false
set_option maxRecDepth 100000
set_option maxHeartbeats 4000000
/-! The text of a number below 10 ^ 64. -/
namespace Fk
open PySem PySem.Spec PyProof.Rows L2
abbrev sNum : Stmt := top 24
/-- the text of a number -/
abbrev numT := Dg.numT
def spNum : Sp := fun vs H Q _ => ∃ n : Int, vs = [.int n] ∧ 0 ≤ n ∧ n < 10 ^ 64 ∧ ∀ H', EvP.Ex H H' → Q (.str (numT n)) H'
theorem scNum : FnScope ["number", "parts", "rest"] ["number"] (defScope sNum) := ⟨rfl, rfl, rfl, by decide +kernel, rfl, by decide +kernel, by decide +kernel⟩
theorem log_small {n : Int} (h0 : 0 ≤ n) (h1 : n < 10 ^ 64) : n.natAbs.log2 < 1920 := by
  by_cases h : n.natAbs = 0
  · rw [h]
    decide
  · refine (Nat.log2_lt h).mpr ?_
    have : n.natAbs < 10 ^ 64 := by omega
    exact Nat.lt_of_lt_of_le this (by decide)
theorem pss_dead {X : Cx} {st : List Stmt} : PSs X st (fun _ _ _ => False) := ⟨fun _ _ _ _ _ _ h => h.elim⟩
section
variable {P : Program} {w : World} {K : PySem.W.Frag} {mg : Str → Option Value} {base : Heap} {f : Addr} {fd : FuncData}
theorem ok_num (F : Fun K "number_text" "number_text" sNum f fd) (T : Blt mg) : FnOk P w K mg base CX0 1 f fd ["number"] spNum := by
  have nd := scNum.nd
  refine F.ok scNum (fun vs H Q E h => ?_) (fun cdv A outer s H vs Q E hr h => ?_)
  · obtain ⟨n, rfl, _⟩ := h
    rfl
  · obtain ⟨n, rfl, h0, h1, q⟩ := h
    refine ⟨_, pss_cons (ps_set (i := 1) nd rfl (Or.inl rfl) (pe_lst pa_nil)) (pss_cons (ps_while PassesOwn.never (pt_cmpR op_ge (pv 0) (pe_op op_pow pe_int pe_int) (nomark _)) pss_dead)
      (pss_one (ps_ret (pe_join pe_str (pe_lst (pa_cons (pe_callTy call_str_int (by rfl) T.str (by decide +kernel) (pa_cons (pv 0) pa_nil)) (StX.pa_star (pe_revL (pv 1)) pa_nil))))))), ?_⟩
    refine ⟨by show 0 ≤ sizeLine; decide, fun p hp => ?_⟩
    have e1 := EvP.Ex.new (o := .lst []) hp
    refine ⟨fun m s h => s = [some (.int n), some (.ref p), none] ∧ h = upd H p (.lst []), ⟨0, rfl, rfl⟩, fun m σ H' h => ?_⟩
    obtain ⟨rfl, rfl⟩ := h
    refine ⟨_, rfl, 10, 64, rfl, rfl, ⟨by decide, by decide, by decide⟩, _, _, rfl, rfl, _, rfl, ?_⟩
    have hz : decide ((10 : Int) ^ (64 : Int).toNat ≤ n) = false := decide_eq_false (by
      show ¬ (10 : Int) ^ 64 ≤ n
      omega)
    rw [hz]
    refine ⟨⟨_, rfl⟩, _, rfl, n, rfl, ?_, _, rfl, p, [], rfl, SqL.of upd_same, fun r hr' => ?_⟩
    · exact log_small h0 h1
    · refine ⟨_, _, rfl, .inr (SqL.of upd_same), by show 1 ≤ sizeLine; decide, fun t ht => ?_⟩
      have e2 := EvP.Ex.new (o := .lst []) hr'
      refine ⟨_, t, [numT n], rfl, rfl, .inl (SqL.of upd_same), ?_, q _ ((e1.trans e2).trans (EvP.Ex.new ht))⟩
      have := toString_length_le h0 (by decide) h1
      show (Str.ofString (toString n)).length + 0 + (1 : Nat) * 0 ≤ 16777216
      omega
end
end Fk

set_option Elab.async false
set_option linter.all false
set_option maxRecDepth 100000
set_option maxHeartbeats 4000000
/-! Comprehensions that only add objects. -/
namespace Cm
open PySem PySem.Spec PyProof.Rows L2 EvP
/-- an iterable whose items are xs, while objects are only added -/
def Walks (wi : TI) (σ : L2.St) (H : Hp) (xs : List V) : Prop := ∀ H1, Ex H H1 → ∀ R : It → Hp → Prop, (∀ J H2, Ex H1 H2 → (∃ G : Hp → Prop, Walk J xs.length G (YAt xs) ∧ ∀ H3, Ex H2 H3 → G H3) → R J H2) → wi σ H1 R
/-- a list, a tuple of just these -/
def lstV (xs : List V) : PR := ⟨fun v H => ∃ a, v = .ref a ∧ H a = some (.lst xs), fun _ _ _ e ⟨a, h1, h2⟩ => ⟨a, h1, e _ _ h2⟩⟩
def tupV (xs : List V) : PR := ⟨fun v H => ∃ a, v = .ref a ∧ H a = some (.tup xs), fun _ _ _ e ⟨a, h1, h2⟩ => ⟨a, h1, e _ _ h2⟩⟩
section
variable {K : PySem.W.Frag} {σ : L2.St} {H : Hp} {tl te : TE} {tt : TT} {xs : List V} {vs : List Nat} {i : Nat} {wi : TI}
theorem walks_list (h : Gives tl σ H (lstV xs)) : Walks (iList K tl) σ H xs := fun H1 e R r =>
  h H1 e _ fun v H2 e2 ⟨a, ev, ha⟩ => ⟨a, ev, ⟨xs, SqL.of ha⟩, r _ _ e2 ⟨_, walk_list, fun H3 e3 => SqL.of (e3 _ _ ha)⟩⟩
theorem walks_tup (h : Gives tl σ H (tupV xs)) : Walks (iTup K tl) σ H xs := fun H1 e R r =>
  h H1 e _ fun v H2 e2 ⟨a, ev, ha⟩ => ⟨a, ev, ⟨xs, SqT.of ha⟩, r _ _ e2 ⟨_, walk_tup, fun H3 e3 => SqT.of (e3 _ _ ha)⟩⟩
theorem all2_snoc {H : Hp} : ∀ {Ps : List PR} {vs : List V} {P : PR} {v : V}, All2 H Ps vs → P.R v H → All2 H (Ps ++ [P]) (vs ++ [v])
  | _, _, _, _, .nil, h => .cons h .nil
  | _, _, _, _, .cons a t, h => .cons a (all2_snoc t h)
/-- what a list that grows does not touch -/
def Stays (P : PR) : Prop := ∀ v H D ys zs, P.R v H → H D = some (.lst ys) → P.R v (upd H D (.lst zs))
theorem all2_stays {H : Hp} {D : Addr} {ys zs : List V} (hD : H D = some (.lst ys)) : ∀ {Ps : List PR} {vs : List V}, (∀ P ∈ Ps, Stays P) → All2 H Ps vs → All2 (upd H D (.lst zs)) Ps vs
  | _, _, _, .nil => .nil
  | _, _, s, .cons a t => .cons (s _ (.head _) _ _ _ _ _ a hD) (all2_stays hD (fun P hP => s P (.tail _ hP)) t)
theorem stays_is (v : V) : Stays (is v) := fun _ _ _ _ _ h _ => h
theorem stays_tupV (ys : List V) : Stays (tupV ys) := fun v H D l1 l2 ⟨a, h1, h2⟩ hD => ⟨a, h1, by
  rw [upd_ne (ne_of h2 hD (fun z => nomatch z))]
  exact h2⟩
/-- [e for x in xs if t] -/
theorem comp (keep : V → Bool) (φ : V → PR) (hw : Walks wi σ H xs) (hz : xs.length ≤ 1000) (wp : ∀ x, wipe ((wipe σ vs).set i (some x)) vs = wipe σ vs)
    (ht : ∀ x ∈ xs, ∀ H1, Ex H H1 → ∀ Q : Bool → Hp → Prop, Q (keep x) H1 → tt ((wipe σ vs).set i (some x)) H1 Q) (he : ∀ x ∈ xs, keep x = true → Gives te ((wipe σ vs).set i (some x)) H (φ x)) (st : ∀ x ∈ xs, Stays (φ x)) :
    Gives (tLc wi (gName i) tt te vs) σ H (lst H ((xs.filter keep).map φ)) := fun H1 e1 Q q => by
  refine hw H1 e1 _ fun J H2 e2 ⟨G, w, g⟩ D hD => ?_
  have mem : ∀ (j : Nat) (P : PR), P ∈ ((xs.take j).filter keep).map φ → Stays P := fun j P hP => by
    obtain ⟨x, hx, rfl⟩ := List.mem_map.mp hP
    exact st x (List.mem_of_mem_take (List.mem_filter.mp hx).1)
  have len : ∀ j, (((xs.take j).filter keep).map φ).length ≤ 1000 := fun j => by
    rw [List.length_map]
    exact Nat.le_trans (List.length_filter_le _ _) (by rw [List.length_take]; omega)
  refine lc_it w (fun j H' => ∃ acc, H' D = some (.lst acc) ∧ Ex H2 H' ∧ All2 H' (((xs.take j).filter keep).map φ) acc) ⟨[], upd_same, Ex.new hD, .nil⟩ (fun j H' _ ⟨_, _, e3, _⟩ => g _ e3) (fun j x H' H'' hj ⟨acc, a1, a2, a3⟩ y => ?_) (fun H' ⟨acc, a1, a2, a3⟩ => ?_)
  · obtain ⟨rfl, hx⟩ := y
    have mx := List.mem_of_getElem? hx
    have eH := (e1.trans e2).trans a2
    have tk : xs.take (j + 1) = xs.take j ++ [x] := by
      rw [List.take_add_one, hx]
      rfl
    refine ⟨wp x, ht x mx _ eH _ ?_⟩
    cases kx : keep x with
    | false =>
      refine ⟨acc, a1, a2, ?_⟩
      rw [tk, List.filter_append, List.filter_cons, kx]
      simpa using a3
    | true =>
      refine he x mx kx _ eH _ fun v H4 e4 hv => ⟨acc, e4 _ _ a1, ?_, acc ++ [v], upd_same, fun b o hb => ?_, ?_⟩
      · have := a3.length
        have := len j
        rw [sizeLine_eq]
        omega
      · rw [upd_ne (ne_of_none hb hD)]
        exact e4 _ _ (a2 _ _ hb)
      · rw [tk, List.filter_append, List.filter_cons, kx, List.map_append]
        refine all2_stays (e4 _ _ a1) (fun P hP => ?_) (all2_snoc (a3.ex e4) hv)
        rcases List.mem_append.mp hP with hP | hP
        · exact mem j P hP
        · rw [List.mem_singleton.mp hP]
          exact st x mx
  · rw [List.take_length] at a3
    exact q _ _ (e2.trans a2) ⟨D, acc, rfl, a1, (e1.trans e2).back hD, a3⟩
theorem all2_is : ∀ {H : Hp} {ws vs : List V}, All2 H (ws.map is) vs → vs = ws
  | _, [], _, .nil => rfl
  | _, w :: ws, _, .cons a t => by rw [show _ = w from a, all2_is t]
/-- .. of values that are told -/
theorem comp_is (keep : V → Bool) (f : V → V) (hw : Walks wi σ H xs) (hz : xs.length ≤ 1000) (wp : ∀ x, wipe ((wipe σ vs).set i (some x)) vs = wipe σ vs)
    (ht : ∀ x ∈ xs, ∀ H1, Ex H H1 → ∀ Q : Bool → Hp → Prop, Q (keep x) H1 → tt ((wipe σ vs).set i (some x)) H1 Q) (he : ∀ x ∈ xs, keep x = true → Gives te ((wipe σ vs).set i (some x)) H (is (f x))) :
    Gives (tLc wi (gName i) tt te vs) σ H (lstV ((xs.filter keep).map f)) := fun H1 e1 Q q =>
  comp keep (fun x => is (f x)) hw hz wp ht he (fun _ _ => stays_is _) H1 e1 Q fun v H2 e2 ⟨a, ws, ev, ha, _, hs⟩ => q v H2 e2 ⟨a, ev, by
    have h2 : All2 H2 ((List.map f (xs.filter keep)).map is) ws := by
      rw [List.map_map]
      exact hs
    rw [← all2_is h2]
    exact ha⟩
/-- [e for k in d], d locked meanwhile -/
theorem comp_keys {m : Nat} {d : Addr} {kvs : List (Key × V)} (f : Key → V) (hd : σ[m]? = some (some (.ref d))) (at_ : H d = some (.dK kvs)) (hz : kvs.length ≤ 1000) (wp : ∀ x, wipe ((wipe σ vs).set i (some x)) vs = wipe σ vs)
    (he : ∀ x ∈ kvs, ∀ H1 (Q : VK), Q (f x.1) H1 → te ((wipe σ vs).set i (some (kV x.1))) H1 Q) :
    Gives (tLockE (tLc (iKeys (tVar m)) (gName i) tYes te vs)) σ H (lstV (kvs.map fun x => f x.1)) := fun H1 e1 Q q => by
  have h1 := e1 _ _ at_
  refine ⟨d, _, h1, True.intro, fun od => ⟨_, hd, d, od, rfl, .inl ⟨kvs, upd_same, fun D hD => ?_⟩⟩⟩
  have nd : d ≠ D := fun z => by
    rw [← z, upd_same] at hD
    cases hD
  have nD : H1 D = none := by rw [upd_ne nd.symm] at hD; exact hD
  refine lc_it walk_keys (fun j H' => H' = upd (upd H1 d (.frz od (.dK kvs))) D (.lst ((kvs.take j).map fun x => f x.1))) (by rw [List.take_zero]; rfl) (fun j H' _ e => by rw [e, upd_ne nd, upd_same]) (fun j x H' H'' hj e y => ?_) (fun H' e => ?_)
  · obtain ⟨rfl, k, v, hk, rfl⟩ := y
    refine ⟨wp _, he (k, v) (List.mem_of_getElem? hk) _ _ ⟨_, by rw [e]; exact upd_same, ?_, ?_⟩⟩
    · rw [List.length_map, List.length_take, sizeLine_eq]
      omega
    · rw [e, List.take_add_one, hk, List.map_append]
      funext b
      by_cases hb : b = D
      · rw [hb, upd_same, upd_same]
        rfl
      · rw [upd_ne hb, upd_ne hb, upd_ne hb]
  · refine ⟨by rw [e, upd_ne nd, upd_same], q _ _ (fun b o hb => ?_) ⟨D, rfl, ?_⟩⟩
    · rw [e]
      by_cases h : b = d
      · rw [h, upd_same, ← h1, ← h]
        exact hb
      · rw [upd_ne h, upd_ne (ne_of_none hb nD), upd_ne h]
        exact hb
    · rw [upd_ne nd.symm, e, upd_same, List.take_length]
end
end Cm

set_option Elab.async false
set_option linter.all false
set_option maxRecDepth 100000
set_option maxHeartbeats 1000000
/-! {k: v for .. in .. for .. in ..}, two clauses, the keys tuples. -/
namespace Dc2
open PySem PySem.Spec PyProof.Rows L2
section
variable {prog : Program} {w : World} {A : Around} {R : Result → Shared → Prop} {s : Shared} {kx vx t0 i0 t1 i1 : Expr} {f0 f1 : List Expr} {sc : Scope} {pos : Pos} {it : Value} {D : Addr} {env : Env}
abbrev Ex2 (kx vx t0 i0 t1 i1 : Expr) (f0 f1 : List Expr) (sc : Scope) (pos : Pos) : Expr := .DictComp kx vx [⟨t0, i0, f0, 0⟩, ⟨t1, i1, f1, 0⟩] sc pos
abbrev tests (prog : Program) (w : World) (A : Around) (env : Env) (fs : List Expr) (Q : Bool → Shared → Prop) (E : Value → Shared → Prop) (s : Shared) : Prop :=
  wpAny (model prog w) A (forIn fs true fun c r => if r = true then do let ok ← isTrue c env (eval c env); pure (ForInStep.yield ok) else pure (ForInStep.yield r)) Q E s
theorem turn_out (kx vx t0 i0 t1 i1 : Expr) (f0 f1 : List Expr) (sc : Scope) (pos : Pos) (it acc : Value) (env : Env) : compTurn (Ex2 kx vx t0 i0 t1 i1 f0 f1 sc pos) 0 it acc env = (do
    standAt i0.pos
    match ← pyNext it with
    | none => pure (.done .next)
    | some v =>
      letOwnedTupleGo t0 it v; assign t0 env v; let mut ok := true
      for c in f0 do
        if ok then ok ← isTrue c env (eval c env)
      if ok then
        let x ← eval i1 env; standAt i1.pos; let x ← foldedSetIterable i1 env x
        let _ ← runOwn (.compStart (Ex2 kx vx t0 i0 t1 i1 f0 f1 sc pos) 1 (← holding [x] (pyIter x)) acc env) env
      again (.compLoop (Ex2 kx vx t0 i0 t1 i1 f0 f1 sc pos) 0 it acc env)) := by rfl
theorem turn_in (kx vx t0 i0 t1 i1 : Expr) (f0 f1 : List Expr) (sc : Scope) (pos : Pos) (it : Value) (D : Addr) (env : Env) : compTurn (Ex2 kx vx t0 i0 t1 i1 f0 f1 sc pos) 1 it (.ref D) env = (do
    standAt i1.pos
    match ← pyNext it with
    | none => pure (.done .next)
    | some v =>
      letOwnedTupleGo t1 it v; assign t1 env v; let mut ok := true
      for c in f1 do
        if ok then ok ← isTrue c env (eval c env)
      if ok then
        (do
          let kv ← eval kx env; let vv ← holding [kv] (eval vx env)
          standAt { kx.pos with endLine := vx.pos.endLine, endCol := vx.pos.endCol }; holding [kv, vv] (dictSet D kv vv))
      again (.compLoop (Ex2 kx vx t0 i0 t1 i1 f0 f1 sc pos) 1 it (.ref D) env)) := by rfl
abbrev nt (prog : Program) (w : World) (A : Around) (env : Env) (R : Result → Shared → Prop) : Value → Shared → Prop := notedBy (model prog w) A env fun e s' => R (.error e) s'
theorem loop_out (hs : ∀ x, foldedSetIterable i1 env x = pure x) (I : Nat → Shared → Prop)
    (turn : ∀ n s, I n s → wpAny (model prog w) A (pyNext it) (fun r s1 => match r with
      | none => R (.ok .next) s1
      | some v => wpAny (model prog w) A (letOwnedTupleGo t0 it v) (fun _ s2 => wpAny (model prog w) A (assign t0 env v) (fun _ s3 => tests prog w A env f0 (fun ok s4 =>
            if ok = true then wpAny (model prog w) A (eval i1 env) (fun x s5 => wpAny (model prog w) A (pyIter x) (fun j s6 =>
              codeAny (model prog w) A (.compStart (Ex2 kx vx t0 i0 t1 i1 f0 f1 sc pos) 1 j (.ref D) env) (fun r s' => match r with
                | .ok _ => ∃ m, m < n ∧ I m s'
                | .error _ => False) s6) (nt prog w A env R) s5) (nt prog w A env R) s4
            else ∃ m, m < n ∧ I m s4) (nt prog w A env R) s3) (nt prog w A env R) s2) (nt prog w A env R) s1) (nt prog w A env R) s) (n : Nat) (h : I n s) :
    codeAny (model prog w) A (.compLoop (Ex2 kx vx t0 i0 t1 i1 f0 f1 sc pos) 0 it (.ref D) env) R s := by
  refine codeAny_loop rfl I (fun n s hI => ?_) n h
  show wpAny _ A ((compTurn (Ex2 kx vx t0 i0 t1 i1 f0 f1 sc pos) 0 it (.ref D) env).onRaise fun x => do noteFrame x env; theTreesLotGoes x) _ _ s
  refine wpAny_noted ?_
  rw [turn_out]
  refine wpAny_bind (wpAny_standAt (wpAny_bind (wpAny_mono (turn n s hI) (fun r s1 h1 => ?_) fun _ _ z => z)))
  cases r with
  | none => exact wpAny_pure h1
  | some v =>
    refine wpAny_bind (wpAny_mono h1 (fun _ s2 h2 => wpAny_bind (wpAny_mono h2 (fun _ s3 h3 => wpAny_bind (wpAny_mono h3 (fun ok s4 h4 => ?_) fun _ _ z => z)) fun _ _ z => z)) fun _ _ z => z)
    cases ok with
    | false => exact wpAny_pure ⟨rfl, h4⟩
    | true =>
      refine wpAny_bind (wpAny_mono h4 (fun x s5 h5 => wpAny_bind (wpAny_standAt (wpAny_bind (wpAny_of_eq (hs x) (wpAny_bind (wpAny_holding (wpAny_mono h5 (fun j s6 h6 => wpAny_bind (wpAny_runOwn ?_)) fun _ _ z => z))))))) fun _ _ z => z)
      rw [Around.mark_none]
      refine codeAny_mono h6 fun r s' hr => ?_
      cases r with
      | ok f => first | exact wpAny_pure ⟨rfl, hr⟩ | exact wpAny_bind (wpAny_pure (wpAny_pure ⟨rfl, hr⟩))
      | error e => exact hr.elim
theorem loop_in (I : Nat → Shared → Prop)
    (turn : ∀ n s, I n s → wpAny (model prog w) A (pyNext it) (fun r s1 => match r with
      | none => R (.ok .next) s1
      | some v => wpAny (model prog w) A (letOwnedTupleGo t1 it v) (fun _ s2 => wpAny (model prog w) A (assign t1 env v) (fun _ s3 => tests prog w A env f1 (fun ok s4 =>
            if ok = true then wpAny (model prog w) A (eval kx env) (fun kv s5 => wpAny (model prog w) A (eval vx env) (fun vv s6 => wpAny (model prog w) A (dictSet D kv vv) (fun _ s7 => ∃ m, m < n ∧ I m s7) (nt prog w A env R) s6) (nt prog w A env R) s5) (nt prog w A env R) s4
            else ∃ m, m < n ∧ I m s4) (nt prog w A env R) s3) (nt prog w A env R) s2) (nt prog w A env R) s1) (nt prog w A env R) s) (n : Nat) (h : I n s) :
    codeAny (model prog w) A (.compLoop (Ex2 kx vx t0 i0 t1 i1 f0 f1 sc pos) 1 it (.ref D) env) R s := by
  refine codeAny_loop rfl I (fun n s hI => ?_) n h
  show wpAny _ A ((compTurn (Ex2 kx vx t0 i0 t1 i1 f0 f1 sc pos) 1 it (.ref D) env).onRaise fun x => do noteFrame x env; theTreesLotGoes x) _ _ s
  refine wpAny_noted ?_
  rw [turn_in]
  refine wpAny_bind (wpAny_standAt (wpAny_bind (wpAny_mono (turn n s hI) (fun r s1 h1 => ?_) fun _ _ z => z)))
  cases r with
  | none => exact wpAny_pure h1
  | some v =>
    refine wpAny_bind (wpAny_mono h1 (fun _ s2 h2 => wpAny_bind (wpAny_mono h2 (fun _ s3 h3 => wpAny_bind (wpAny_mono h3 (fun ok s4 h4 => ?_) fun _ _ z => z)) fun _ _ z => z)) fun _ _ z => z)
    cases ok with
    | false => exact wpAny_pure ⟨rfl, h4⟩
    | true =>
      exact wpAny_bind (wpAny_bind (wpAny_mono h4 (fun kv s5 h5 => wpAny_bind (wpAny_holding (wpAny_mono h5 (fun vv s6 h6 => wpAny_bind (wpAny_standAt (wpAny_holding (wpAny_mono h6 (fun _ s7 h7 => wpAny_pure ⟨rfl, h7⟩) fun _ _ z => z)))) fun _ _ z => z))) fun _ _ z => z))
theorem start_in (h0 : codeAny (model prog w) A (.compLoop (Ex2 kx vx t0 i0 t1 i1 f0 f1 sc pos) 1 it (.ref D) env) R s)
    (h : wpAny (model prog w) A (pyIter it) (fun j s' => codeAny (model prog w) A (.compLoop (Ex2 kx vx t0 i0 t1 i1 f0 f1 sc pos) 1 j (.ref D) env) R s') (nt prog w A env R) s) :
    codeAny (model prog w) A (.compStart (Ex2 kx vx t0 i0 t1 i1 f0 f1 sc pos) 1 it (.ref D) env) R s := by
  refine codeAny_of_tree ?_
  show wpAny _ _ ((compStart (Ex2 kx vx t0 i0 t1 i1 f0 f1 sc pos) 1 it (.ref D) env).onRaise fun x => do noteFrame x env; standAt theWindowsPlace) _ _ s
  refine wpAny_notedAt ?_
  unfold compStart
  show wpAny _ _ (ask >>= _) _ _ s
  refine wpAny_bind (wpAny_askSetting (wpAny_ite ?_))
  split
  · first | exact wpAny_bind (wpAny_pure (wpAny_pure (And.intro rfl h0))) | exact wpAny_pure (And.intro rfl h0)
  · first
      | exact wpAny_bind (wpAny_rule (wpAny_bind (wpAny_standAt (wpAny_bind (wpAny_mono h (fun j s' y => wpAny_pure (And.intro rfl y)) fun _ _ x => x)))))
      | (refine wpAny_bind (wpAny_rule ?_); show wpAny _ _ (standAt i1.pos >>= _) _ _ s; exact wpAny_bind (wpAny_standAt (wpAny_bind (wpAny_mono h (fun j s' y => wpAny_pure (And.intro rfl y)) fun _ _ x => x))))
end
/-- d[k] = v by a comprehension, k a tuple -/
theorem put_tup {X : Cx} {pins : List (Addr × Obj)} {σ : L2.St} {H : Hp} {s : Shared} {E : Value → Shared → Prop} {D b : Addr} {kvs : List (List Key × V)} {k : List Key} {v : V} {u r : Value} {Q : Unit → Shared → Prop} (hu : X.A.units + 1 < cLine) (I : Inv X pins σ H s) (hD : H D = some (.dT kvs)) (hz : kvs.length < sizeLine)
    (eb : H b = some (.tup (k.map kV))) (ry : RelV (.ref b) u) (rv : RelV v r) (h : ∀ s', Inv X pins σ (upd H D (.dT (putK kvs k v))) s' → Q () s') : wpAny (model X.prog X.w) X.A (dictSet D u r) Q E s := by
  cases ry
  obtain ⟨z, hd, xs, rel, dd⟩ := dt_of I.hok hD
  have l1 : xs.length ≤ sizeLine := by rw [← Paired.length rel]; exact z
  have l2 : (putK kvs k v).length ≤ sizeLine := by
    have := length_putK kvs k v
    omega
  refine wpAny_dictSet_heap (hsz := l1) ?_ (key_of I.hok eb) dd fun h' dd' hs => h _ ?_
  · show X.A.units < cLine
    omega
  · obtain ⟨q, es, ep, hq, h2, h3, h4, _, h5⟩ := dd'
    refine d_write I (by rw [hD]; exact True.intro) hs ⟨q, hq⟩ ⟨l2, hd, _, (rel.put k eb rv).keeps fun c ys ec => ?_, q, es, ep, hq, h2, h3, h4, h5⟩
    rw [upd_ne (ne_of ec hD (fun z => nomatch z))]
    exact ec
/-- {k: v for tg in iter if .. for tg1 in iter1 if ..}, the keys tuples: D the new dict -/
def tDc2 (wi : TI) (g : TG) (tt : TT) (wi1 : TI) (g1 : TG) (tt1 : TT) (tk tv : TE) (vs vs1 : List Nat) : TE := fun σ H Q => wi σ H fun J H1 => ∀ D, H1 D = none → ∃ W : Nat → Nat → Hp → Prop, (∃ m, W 0 m (upd H1 D (.dT []))) ∧ ∀ i m H, W i m H →
  (J.stop i H ∧ Q (.ref D) H) ∨ (J.go i H ∧ ∃ Nx : Hp → Prop, (∀ H', Nx H' → ∃ m', m' < m ∧ W (i + 1) m' H') ∧ ∀ x H', J.yld i H x H' → g x (wipe σ vs) H' fun σ2 H2 => wipe σ2 vs = wipe σ vs ∧ tt σ2 H2 fun b H3 =>
    if b = true then wi1 σ2 H3 fun J1 H4 => ∃ W1 : Nat → Nat → Hp → Prop, (∃ m, W1 0 m H4) ∧ ∀ j k H, W1 j k H →
      (J1.stop j H ∧ Nx H) ∨ (J1.go j H ∧ ∃ Nx1 : Hp → Prop, (∀ H', Nx1 H' → ∃ k', k' < k ∧ W1 (j + 1) k' H') ∧ ∀ x H', J1.yld j H x H' → g1 x (wipe σ2 vs1) H' fun σ3 H5 => wipe σ3 vs1 = wipe σ2 vs1 ∧ tt1 σ3 H5 fun b H6 =>
        if b = true then tk σ3 H6 fun y H7 => tv σ3 H7 fun z H8 => ∃ (kvs : List (List Key × V)) (ks : List Key) (q : Addr), y = .ref q ∧ H8 q = some (.tup (ks.map kV)) ∧ H8 D = some (.dT kvs) ∧ kvs.length < sizeLine ∧ Nx1 (upd H8 D (.dT (putK kvs ks z))) else Nx1 H6)
    else Nx H3)
/-- what holds in each block of the scope sc -/
abbrev InBlk (X : Cx) (sc : Scope) (T : Cx → Prop) : Prop := ∀ (s : Shared) (H : Hp) (C : Addr) (cl : List (Str × Addr)) (fp : List Addr), T (X.blk s H sc (compEnvC sc cl C X.env) fp)
section
variable {X : Cx}
theorem core {pins : List (Addr × Obj)} {s : Shared} {σ : L2.St} {H : Hp} {Q : VK} {kx vx tg iter tg1 iter1 : Expr} {f0 f1 : List Expr} {sc : Scope} {own : List (Str × Nat)} {vs1 : List Nat} {pos pos' : Pos} {wi wi1 : TI} {g g1 : TG} {tt tt1 : TT} {tk tv : TE} {use : Option (Value → Sem Unit)} {Qf : Value → Shared → Prop}
    (hu : X.A.units + 1 < cLine) (hc : X.calm = true) (hN : X.N.Nodup) (I : Inv X pins σ H s) (hi : PI X tg iter wi) (ok : BlkOk X.N X.env.scope sc own) (hv : ∀ i ∈ vs1, i ∈ own.map (·.2))
    (hg : InBlk X sc fun B => PG B tg g) (ht : InBlk X sc fun B => PTs B f0 tt) (hk : InBlk X sc fun B => PE B kx tk) (he : InBlk X sc fun B => PE B vx tv) (hs : ∀ x, foldedSetIterable iter X.env x = pure x)
    (hi1 : InBlk X sc fun B => PI B tg1 iter1 wi1) (hg1 : InBlk X sc fun B => PG B tg1 g1) (ht1 : InBlk X sc fun B => PTs B f1 tt1) (hs1 : ∀ env x, foldedSetIterable iter1 env x = pure x)
    (h : tDc2 wi g tt wi1 g1 tt1 tk tv (own.map (·.2)) vs1 σ H Q)
    (hR : ∀ D C s' m H', Inv X pins σ H' s' → Q (.ref D) H' → s'.heap.Ns C m → FpOk X pins H' C → compPost (model X.prog X.w) X.A X.xe use Qf (.ref D) C (.ok .next) s') :
    wpAny (model X.prog X.w) X.A (comprehension (Ex2 kx vx tg iter tg1 iter1 f0 f1 sc pos) sc X.env pos' newDict false (eval iter X.env) use) Qf X.xe s := by
  have caught : ∀ y ∈ sc.names, y.2 = .free → ∃ c, X.env.cells.lookup y.1 = some c := fun y hy e => (ok.free y hy e).elim (fun k => I.ok.has _ (.inl k)) fun k => I.ok.has _ (.inr k)
  refine wpAny_comprehension_free (use := use) rfl hs (closure_ok caught) ok.kind (fun y hy e => by rw [ok.uniq y hy, e]) (thn (hi.run pins s σ H _ I h) fun xv s1 hx => thn hx fun itv s2 h2 => ?_)
  obtain ⟨it, fp, tn, J, H2, rfl, I2, T, st2, f2, q⟩ := h2
  refine wpAny_newObj_type (newEnv_comp ?_)
  generalize hD : s2.heap.objs.size = D
  obtain ⟨W, ⟨m0, w0⟩, turn⟩ := q D (I2.hok.fresh (Nat.le_of_eq hD))
  generalize hs3 : ({ s2 with heap := s2.heap.push { cls := .type "dict", data := .dict #[] } } : Shared) = s3
  have h3 : s3.heap = s2.heap.push { cls := .type "dict", data := .dict #[] } := by rw [← hs3]
  have I3 : Inv X pins σ (upd H2 D (.dT [])) s3 := by
    rw [← hs3]
    refine I2.laid (t' := s2.toks) (fun b o e => Heap.get?_push_of_some _ e) (Nat.le_of_eq hD) ?_
    rw [← hD]
    exact dt_empty s2.heap I2.big
  have low : ∀ b ∈ fp, b < s2.heap.objs.size := fun b hb => let ⟨o, e, _⟩ := T.obj _ _ st2 b hb; Heap.lt_size e
  have f3 : ∀ b ∈ fp, FpOk X pins (upd H2 D (.dT [])) b ∧ b < s3.heap.objs.size := fun b hb =>
    ⟨⟨by rw [upd_ne (by rw [← hD]; exact Nat.ne_of_lt (low b hb))]; exact (f2 b hb).1, (f2 b hb).2⟩, by rw [h3, Heap.size_push]; exact Nat.lt_succ_of_lt (low b hb)⟩
  have st3 : tn 0 s3.heap := T.keep _ _ _ st2 fun b _ o e => by rw [h3]; exact Heap.get?_push_of_some _ e
  have I4 := block_start I3 ok hN f3
  generalize hcl : cellsFrom (s3.heap.objs.size + 1) sc.names (cloFrom X.env.cells sc.names []) = cl at I4
  have pg := hg s3 (upd H2 D (.dT [])) s3.heap.objs.size cl fp
  have pt := ht s3 (upd H2 D (.dT [])) s3.heap.objs.size cl fp
  have pk := hk s3 (upd H2 D (.dT [])) s3.heap.objs.size cl fp
  have pe := he s3 (upd H2 D (.dT [])) s3.heap.objs.size cl fp
  have pi1 := hi1 s3 (upd H2 D (.dT [])) s3.heap.objs.size cl fp
  have pg1 := hg1 s3 (upd H2 D (.dT [])) s3.heap.objs.size cl fp
  have pt1 := ht1 s3 (upd H2 D (.dT [])) s3.heap.objs.size cl fp
  show codeAny _ _ (.compStart (Ex2 kx vx tg iter tg1 iter1 f0 f1 sc pos) 0 (.ref it) (.ref D) (compEnvC sc cl s3.heap.objs.size X.env)) (compPost (model X.prog X.w) X.A X.xe use Qf (.ref D) s3.heap.objs.size) { s3 with heap := pushCells (s3.heap.push { cls := .type "dict", data := .dict #[] }) sc.names }
  have nfp : ∀ b ∈ fp, (upd H2 D (.dT [])) b = none := fun b hb => (f3 b hb).1.1
  generalize hce : compEnvC sc cl s3.heap.objs.size X.env = ce at I4 pg pt pk pe pi1 pg1 pt1 ⊢
  have cL : ce.locals = s3.heap.objs.size := by
    subst hce
    rfl
  generalize hH3 : upd H2 D (.dT []) = H3 at I3 I4 pg pt pk pe pi1 pg1 pt1 w0 nfp f3
  generalize hs4 : ({ s3 with heap := pushCells (s3.heap.push { cls := .type "dict", data := .dict #[] }) sc.names } : Shared) = s4 at I4 ⊢
  have st4 : tn 0 s4.heap := T.keep _ _ _ st3 fun b _ o e => by rw [← hs4]; exact pushCells_keeps _ _ _ _ (Heap.get?_push_of_some _ e)
  generalize hB : X.blk s3 H3 sc ce fp = B at I4 pg pt pk pe pi1 pg1 pt1
  have stat : ∀ {pn : List (Addr × Obj)} {σ' : L2.St} {H' : Hp} {s' : Shared}, Inv B [] σ' H' s' → (∀ b ∈ fp, H' b = none) → ∀ b ∈ fp, FpOk B [] H' b := fun {pn σ' H' s'} I' hn b hb => by
    subst hB
    exact ⟨hn b hb, (I'.ok.exf b hb).1, I'.ok.exfs b hb, .inl hb, fun x c e => (I'.ok.exf b hb).2 x c e, fun p hp => absurd (show p ∈ ([] : List (Addr × Obj)) ++ [] from hp) (by simp)⟩
  have eB : B.prog = X.prog ∧ B.w = X.w ∧ B.K = X.K ∧ B.calm = true := by
    subst hB
    exact ⟨rfl, rfl, rfl, hc⟩
  have loop : codeAny (model X.prog X.w) X.A (.compLoop (Ex2 kx vx tg iter tg1 iter1 f0 f1 sc pos) 0 (.ref it) (.ref D) ce) (compPost (model X.prog X.w) X.A X.xe use Qf (.ref D) s3.heap.objs.size) s4 := by
    subst hB
    refine loop_out (hs1 ce) (fun n s' => ∃ i H', Inv (X.blk s3 H3 sc ce fp) [] (wipe σ (own.map (·.2))) H' s' ∧ tn i s'.heap ∧ (∀ b ∈ fp, H' b = none) ∧ W i n H') ?_ m0 ⟨0, H3, I4, st4, nfp, w0⟩
    rintro n s5 ⟨i, H5, I5, st5, n5, w5⟩
    rcases turn i n H5 w5 with ⟨stop, qq⟩ | ⟨go, Nx, hNx, step⟩
    · refine thnF (T.done (X.blk s3 H3 sc ce fp) rfl rfl rfl hc i [] s5 _ H5 (fun _ _ => False) I5 (stat (pn := []) I5 n5) st5 stop) fun r s6 ⟨hr, I6⟩ => ?_
      subst hr
      obtain ⟨m, hn, _⟩ := I6.loc
      have hn : s6.heap.Ns ce.locals m := hn
      have nC : H5 ce.locals = none := I6.free
      rw [cL] at hn nC
      exact hR D s3.heap.objs.size s6 m H5 (I3.call' (ch := fp) I6.os I6.base I6.hok I6.bare fun b hb => ⟨(f3 b hb).1.2.2.2.1, (f3 b hb).1.2.1, (f3 b hb).1.2.2.2.2.1, (f3 b hb).1.2.2.2.2.2⟩) qq hn (I3.fpOk (Nat.le_refl _) nC)
    · refine thnF (T.item (X.blk s3 H3 sc ce fp) rfl rfl rfl hc i [] s5 _ H5 (fun _ _ => False) I5 (stat (pn := []) I5 n5) st5 go) fun r s6 ⟨u, hr, h6⟩ => ?_
      subst hr
      refine thnF h6 fun _ s7 ⟨x, H7, I7, r7, y7, st7, n7⟩ => ?_
      refine thnF (pg.run _ s7 _ H7 x u _ (I7.pinned (stat (pn := []) I7 n7) (T.obj _ _ st7)) r7 (step x H7 y7)) fun _ s8 ⟨σ8, H8, I8, hw8, q8⟩ => thnF (pt.run _ s8 σ8 H8 _ I8 q8) fun b s9 ⟨H9, I9, q9⟩ => ?_
      have fin : ∀ {σ9 : L2.St} {s' : Shared} {H' : Hp}, Inv (X.blk s3 H3 sc ce fp) ([] ++ pinsAt fp s7.heap) σ9 H' s' → (wipe σ (own.map (·.2))).length = σ9.length → (∀ (j : Nat) v, (wipe σ (own.map (·.2)))[j]? = some (some v) → σ9[j]? = some (some v)) → Nx H' →
          ∃ m, m < n ∧ ∃ i H', Inv (X.blk s3 H3 sc ce fp) [] (wipe σ (own.map (·.2))) H' s' ∧ tn i s'.heap ∧ (∀ b ∈ fp, H' b = none) ∧ W i m H' := fun {σ9 s' H'} I' hl hk nx => by
        obtain ⟨m', hm, w'⟩ := hNx H' nx
        have pin' : ∀ b ∈ fp, ∀ o, s7.heap.get? b = some o → s'.heap.get? b = some o ∧ H' b = none := fun b hb o e => have z := I'.pin (b, o) (List.mem_append_right _ (List.mem_append_right _ (mem_pinsAt hb e))); ⟨z.1, z.2.1⟩
        exact ⟨m', hm, i + 1, H', (I'.unpinned (pins := [])).weak hl hk, T.keep _ _ _ st7 fun b hb o e => (pin' b hb o e).1, fun b hb => let ⟨o, e, _⟩ := T.obj _ _ st7 b hb; (pin' b hb o e).2, w'⟩
      have l8 : (wipe σ (own.map (·.2))).length = σ8.length := by rw [← hw8, wipe_length]
      have k8 : ∀ (j : Nat) v, (wipe σ (own.map (·.2)))[j]? = some (some v) → σ8[j]? = some (some v) := fun j v e => (wipe_some (by rw [hw8]; exact e)).1
      have k9 : ∀ (j : Nat) v, (wipe σ (own.map (·.2)))[j]? = some (some v) → (wipe σ8 vs1)[j]? = some (some v) := fun j v e => by
        rw [← hw8] at e
        rw [wipe_out fun z => (wipe_some e).2 (hv j z)]
        exact (wipe_some e).1
      cases b with
      | false => exact fin I9 l8 k8 (by simpa only [Bool.false_eq_true, if_false] using q9)
      | true =>
        rw [if_pos rfl] at q9
        show wpAny _ _ _ _ _ _
        refine thnF (pi1.run _ s9 σ8 H9 _ I9 q9) fun xv s10 hx => thnF hx fun itv s11 h11 => ?_
        obtain ⟨it1, fp1, tn1, J1, H11, rfl, I11, T1, st11, f11, W1, ⟨m1, w1⟩, turn1⟩ := h11
        have stat1 : ∀ {H' : Hp}, (∀ b ∈ fp1, H' b = none) → ∀ b ∈ fp1, FpOk (X.blk s3 H3 sc ce fp) ([] ++ pinsAt fp s7.heap) H' b := fun hn b hb => ⟨hn b hb, (f11 b hb).2⟩
        have loop1 : codeAny (model X.prog X.w) X.A (.compLoop (Ex2 kx vx tg iter tg1 iter1 f0 f1 sc pos) 1 (.ref it1) (.ref D) ce) (fun r s' => match r with
            | .ok _ => ∃ m, m < n ∧ ∃ i H', Inv (X.blk s3 H3 sc ce fp) [] (wipe σ (own.map (·.2))) H' s' ∧ tn i s'.heap ∧ (∀ b ∈ fp, H' b = none) ∧ W i m H'
            | .error _ => False) s11 := by
          refine loop_in (fun k s' => ∃ j H', Inv (X.blk s3 H3 sc ce fp) ([] ++ pinsAt fp s7.heap) (wipe σ8 vs1) H' s' ∧ tn1 j s'.heap ∧ (∀ b ∈ fp1, H' b = none) ∧ W1 j k H') ?_ m1 ⟨0, H11, I11.weak (wipe_length _ _) (fun j v e => (wipe_some e).1), st11, fun b hb => (f11 b hb).1, w1⟩
          rintro k s12 ⟨j, H12, I12, st12, n12, w12⟩
          rcases turn1 j k H12 w12 with ⟨stop1, nx1⟩ | ⟨go1, Nx1, hNx1, step1⟩
          · refine thnF (T1.done (X.blk s3 H3 sc ce fp) rfl rfl rfl hc j _ s12 (wipe σ8 vs1) H12 (fun _ _ => False) I12 (stat1 n12) st12 stop1) fun r s13 ⟨hr, I13⟩ => ?_
            subst hr
            exact fin I13 (l8.trans (wipe_length σ8 vs1).symm) k9 nx1
          · refine thnF (T1.item (X.blk s3 H3 sc ce fp) rfl rfl rfl hc j _ s12 (wipe σ8 vs1) H12 (fun _ _ => False) I12 (stat1 n12) st12 go1) fun r s13 ⟨u1, hr, h13⟩ => ?_
            subst hr
            refine thnF h13 fun _ s14 ⟨x1, H14, I14, r14, y14, st14, n14⟩ => ?_
            refine thnF (pg1.run _ s14 (wipe σ8 vs1) H14 x1 u1 _ (I14.pinned (stat1 n14) (T1.obj _ _ st14)) r14 (step1 x1 H14 y14)) fun _ s15 ⟨σ15, H15, I15, hw15, q15⟩ => thnF (pt1.run _ s15 σ15 H15 _ I15 q15) fun b1 s16 ⟨H16, I16, q16⟩ => ?_
            have fin1 : ∀ {s' : Shared} {H' : Hp}, Inv (X.blk s3 H3 sc ce fp) (([] ++ pinsAt fp s7.heap) ++ pinsAt fp1 s14.heap) σ15 H' s' → Nx1 H' → ∃ m, m < k ∧ ∃ j H', Inv (X.blk s3 H3 sc ce fp) ([] ++ pinsAt fp s7.heap) (wipe σ8 vs1) H' s' ∧ tn1 j s'.heap ∧ (∀ b ∈ fp1, H' b = none) ∧ W1 j m H' := fun {s' H'} I' nx => by
              obtain ⟨m', hm, w'⟩ := hNx1 H' nx
              have pin' : ∀ b ∈ fp1, ∀ o, s14.heap.get? b = some o → s'.heap.get? b = some o ∧ H' b = none := fun b hb o e => have z := I'.pin (b, o) (List.mem_append_right _ (List.mem_append_right _ (mem_pinsAt hb e))); ⟨z.1, z.2.1⟩
              exact ⟨m', hm, j + 1, H', I'.unpinned.weak (by rw [← hw15, wipe_length]) (fun j v e => (wipe_some (by rw [hw15]; exact e)).1), T1.keep _ _ _ st14 fun b hb o e => (pin' b hb o e).1, fun b hb => let ⟨o, e, _⟩ := T1.obj _ _ st14 b hb; (pin' b hb o e).2, w'⟩
            cases b1 with
            | false => exact fin1 I16 (by simpa only [Bool.false_eq_true, if_false] using q16)
            | true =>
              rw [if_pos rfl] at q16
              refine thnF (pk.run _ s16 σ15 H16 _ I16 q16) fun z s17 ⟨yk, H17, I17, r17, q17⟩ => thnF (pe.run _ s17 σ15 H17 _ I17 q17) fun z2 s18 ⟨yv, H18, I18, r18, kvs, ks, qk, ek, hqk, hD18, hz18, nx⟩ => ?_
              subst ek
              exact put_tup (X := X.blk s3 H3 sc ce fp) hu I18 hD18 hz18 hqk r17 r18 fun s19 I19 => fin1 I19 nx
        exact start_in loop1 (T1.self X.A 0 _ _ _ st11 loop1)
  exact codeAny_compStart_dict loop (T.self X.A 0 _ _ _ st4 loop)
theorem pe_dc2 {kx vx tg iter tg1 iter1 : Expr} {f0 f1 : List Expr} {sc : Scope} {own : List (Str × Nat)} {vs1 : List Nat} {pos : Pos} {wi wi1 : TI} {g g1 : TG} {tt tt1 : TT} {tk tv : TE}
    (hu : X.A.units + 1 < cLine) (hc : X.calm = true) (hN : X.N.Nodup) (hi : PI X tg iter wi) (ok : BlkOk X.N X.env.scope sc own) (hv : ∀ i ∈ vs1, i ∈ own.map (·.2))
    (hg : InBlk X sc fun B => PG B tg g) (ht : InBlk X sc fun B => PTs B f0 tt) (hi1 : InBlk X sc fun B => PI B tg1 iter1 wi1) (hg1 : InBlk X sc fun B => PG B tg1 g1) (ht1 : InBlk X sc fun B => PTs B f1 tt1)
    (hk : InBlk X sc fun B => PE B kx tk) (he : InBlk X sc fun B => PE B vx tv) (hs : ∀ x, foldedSetIterable iter X.env x = pure x := by intro _; rfl) (hs1 : ∀ env x, foldedSetIterable iter1 env x = pure x := by intro _ _; rfl) :
    PE X (Ex2 kx vx tg iter tg1 iter1 f0 f1 sc pos) (tDc2 wi g tt wi1 g1 tt1 tk tv (own.map (·.2)) vs1) := by
  refine ⟨fun pins s σ H Q I h => ?_⟩
  rw [arm_eval_DictComp]
  refine core hu hc hN I hi ok hv hg ht hk he hs hi1 hg1 ht1 hs1 h fun D C s' m H' I' q hn f => ⟨m, hn, fun h2 sb => ?_⟩
  obtain ⟨a0, a1, a2, a3, a4, a5⟩ := f
  exact ⟨.ref D, H', I'.turned (t' := s'.toks) (fun b o hb e => (sb.2 b hb).trans e) a0 a1 a3 a4 a5, rfl, q⟩
end
end Dc2

set_option Elab.async false
set_option linter.all false
set_option maxRecDepth 100000
set_option maxHeartbeats 1000000
/-! Several dicts locked at once; walks over locked dicts; comprehensions of two clauses that only add objects. -/
namespace Cm
open PySem PySem.Spec PyProof.Rows L2 EvP
/-- t while the things of ds are locked -/
def lockW : List (Addr × HO) → TE → TE
  | [], t => t
  | p :: r, t => fun σ H Q => H p.1 = some p.2 ∧ Mut (some p.2) ∧ ∀ od, lockW r t σ (upd H p.1 (.frz od p.2)) fun v H' => H' p.1 = some (.frz od p.2) ∧ Q v (upd H' p.1 p.2)
def tLockL (t : TE) : TE := fun σ H Q => ∃ ds, lockW ds t σ H Q
theorem pe_lockW {X : Cx} {e : Expr} {t : TE} (h : PE X e t) : ∀ ds, PE X e (lockW ds t)
  | [] => h
  | p :: r => ⟨fun pins s σ H Q I hw => (pe_lock (pe_lockW h r)).run pins s σ H Q I ⟨p.1, p.2, hw.1, hw.2.1, hw.2.2⟩⟩
theorem pe_lockL {X : Cx} {e : Expr} {t : TE} (h : PE X e t) : PE X e (tLockL t) := ⟨fun pins s σ H Q I ⟨ds, hw⟩ => (pe_lockW h ds).run pins s σ H Q I hw⟩
/-- H with ds locked; H' with ds as they were -/
structure Froz (ds : List (Addr × HO)) (H Hf : Hp) : Prop where
  old : ∀ b, b ∉ ds.map (·.1) → Hf b = H b
  at_ : ∀ p ∈ ds, ∃ od, Hf p.1 = some (.frz od p.2)
structure Thaw (ds : List (Addr × HO)) (H' H2 : Hp) : Prop where
  old : ∀ b, b ∉ ds.map (·.1) → H2 b = H' b
  at_ : ∀ p ∈ ds, H2 p.1 = some p.2
theorem lock_all {t : TE} {σ : L2.St} (S : Hp → V → Hp → Prop) : ∀ (ds : List (Addr × HO)) (H : Hp) (Q : VK), (ds.map (·.1)).Nodup → (∀ p ∈ ds, H p.1 = some p.2 ∧ Mut (some p.2)) → (∀ Hf, Froz ds H Hf → ∀ R : VK, (∀ v H', S Hf v H' → R v H') → t σ Hf R) →
    (∀ Hf v H', Froz ds H Hf → S Hf v H' → (∀ p ∈ ds, H' p.1 = Hf p.1) ∧ ∀ H2, Thaw ds H' H2 → Q v H2) → lockW ds t σ H Q
  | [], H, Q, _, _, a, b => a H ⟨fun _ _ => rfl, fun p hp => nomatch hp⟩ Q fun v H' s => (b H v H' ⟨fun _ _ => rfl, fun p hp => nomatch hp⟩ s).2 H' ⟨fun _ _ => rfl, fun p hp => nomatch hp⟩
  | p :: r, H, Q, nd, at_, a, b => by
    rw [List.map_cons, List.nodup_cons] at nd
    refine ⟨(at_ p (.head _)).1, (at_ p (.head _)).2, fun od => lock_all S r _ _ nd.2 (fun q hq => ?_) (fun Hf fr R hR => ?_) (fun Hf v H' fr s => ?_)⟩
    · rw [upd_ne fun e => nd.1 (List.mem_map.mpr ⟨q, hq, e⟩)]
      exact at_ q (.tail _ hq)
    all_goals
      have fr' : Froz (p :: r) H Hf := ⟨fun c hc => by
        rw [List.map_cons, List.mem_cons, not_or] at hc
        rw [fr.old c hc.2, upd_ne hc.1], fun q hq => by
        rcases List.mem_cons.mp hq with rfl | hq
        · exact ⟨od, by rw [fr.old _ nd.1, upd_same]⟩
        · exact fr.at_ q hq⟩
    · exact a Hf fr' R hR
    · obtain ⟨b1, b2⟩ := b Hf v H' fr' s
      refine ⟨fun q hq => b1 q (.tail _ hq), fun H2 th => ?_⟩
      have e : Hf p.1 = some (.frz od p.2) := by rw [fr.old _ nd.1, upd_same]
      refine ⟨by rw [th.old _ nd.1, b1 p (.head _), e], b2 _ ⟨fun c hc => ?_, fun q hq => ?_⟩⟩
      · rw [List.map_cons, List.mem_cons, not_or] at hc
        rw [upd_ne hc.1, th.old c hc.2]
      · rcases List.mem_cons.mp hq with rfl | hq
        · exact upd_same
        · rw [upd_ne fun e => nd.1 (List.mem_map.mpr ⟨q, hq, e⟩)]
          exact th.at_ q hq
theorem Froz.ex {ds : List (Addr × HO)} {H Hf H' H2 : Hp} (at_ : ∀ p ∈ ds, H p.1 = some p.2) (f : Froz ds H Hf) (e : Ex Hf H') (t : Thaw ds H' H2) : Ex H H2 := fun b o h => by
  by_cases m : b ∈ ds.map (·.1)
  · obtain ⟨p, hp, rfl⟩ := List.mem_map.mp m
    rw [t.at_ p hp, ← at_ p hp]
    exact h
  · rw [t.old b m]
    exact e _ _ (by rw [f.old b m]; exact h)
theorem Thaw.new {ds : List (Addr × HO)} {H Hf H' H2 : Hp} (f : Froz ds H Hf) (e : Ex Hf H') (t : Thaw ds H' H2) {b : Addr} {o : HO} (h : H' b = some o) (nf : ∀ od u, o ≠ .frz od u) : H2 b = some o := by
  by_cases m : b ∈ ds.map (·.1)
  · obtain ⟨p, hp, rfl⟩ := List.mem_map.mp m
    obtain ⟨od, y⟩ := f.at_ p hp
    rw [e _ _ y] at h
    exact absurd (Option.some.inj h).symm (nf _ _)
  · rw [t.old b m]
    exact h
section
variable {K : PySem.W.Frag} {σ : L2.St} {H : Hp} {t te : TE} {P P0 : PR} {ds : List (Addr × HO)}
theorem g_lock (nd : (ds.map (·.1)).Nodup) (at_ : ∀ p ∈ ds, H p.1 = some p.2 ∧ Mut (some p.2)) (h : ∀ H1, Ex H H1 → ∀ Hf, Froz ds H1 Hf → Gives t σ Hf P0)
    (k : ∀ v H1 Hf H' H2, Ex H H1 → Froz ds H1 Hf → Ex Hf H' → Thaw ds H' H2 → P0.R v H' → P.R v H2) : Gives (tLockL t) σ H P := fun H1 e1 Q q => by
  have at1 : ∀ p ∈ ds, H1 p.1 = some p.2 ∧ Mut (some p.2) := fun p hp => ⟨e1 _ _ (at_ p hp).1, (at_ p hp).2⟩
  refine ⟨ds, lock_all (fun Hf v H' => Ex Hf H' ∧ P0.R v H') ds H1 Q nd at1 (fun Hf fr R hR => h H1 e1 Hf fr Hf (Ex.refl Hf) R fun v H2 e p => hR v H2 ⟨e, p⟩) fun Hf v H' fr s => ⟨fun p hp => ?_, fun H2 th => ?_⟩⟩
  · obtain ⟨od, y⟩ := fr.at_ p hp
    rw [y, s.1 _ _ y]
  · exact q v H2 (fr.ex (fun p hp => (at1 p hp).1) s.1 th) (k v H1 Hf H' H2 e1 fr s.1 th s.2)
/-- walks over what is locked -/
theorem walks_vals {m : Nat} {d : Addr} {od : Obj} {kvs : List (Key × V)} (hd : σ[m]? = some (some (.ref d))) (h : H d = some (.frz od (.dK kvs))) : Walks (iVals (tVar m)) σ H (kvs.map (·.2)) := fun H1 e R r =>
  ⟨_, hd, d, od, kvs, rfl, e _ _ h, r _ _ (Ex.refl H1) ⟨fun H => H d = some (.frz od (.dK kvs)), by
    have w := walk_values (d := d) (o := od) (kvs := kvs)
    rw [List.length_map]
    exact w.mono (fun _ z => z) fun i H x H' _ _ ⟨e1, k, hk⟩ => ⟨e1, by rw [List.getElem?_map, hk]; rfl⟩, fun H3 e3 => e3 _ _ (e _ _ h)⟩⟩
theorem walks_keys {m : Nat} {d : Addr} {od : Obj} {kvs : List (Key × V)} (hd : σ[m]? = some (some (.ref d))) (h : H d = some (.frz od (.dK kvs))) : Walks (iKeys (tVar m)) σ H (kvs.map fun p => kV p.1) := fun H1 e R r =>
  ⟨_, hd, d, od, rfl, .inl ⟨kvs, e _ _ h, r _ _ (Ex.refl H1) ⟨fun H => H d = some (.frz od (.dK kvs)), by
    have w := L2.walk_keys (d := d) (o := od) (kvs := kvs)
    rw [List.length_map]
    exact w.mono (fun _ z => z) fun i H x H' _ _ ⟨e1, k, v, hk, ex⟩ => ⟨e1, by rw [List.getElem?_map, hk, ex]; rfl⟩, fun H3 e3 => e3 _ _ (e _ _ h)⟩⟩⟩
/-- walks that only look -/
def WalksD (wi : TI) (σ : L2.St) (H : Hp) (xs : List V) : Prop := ∀ H1, Ex H H1 → ∀ R : It → Hp → Prop, (∀ J, (∃ G : Hp → Prop, Walk J xs.length G (YAt xs) ∧ ∀ H3, Ex H H3 → G H3) → R J H1) → wi σ H1 R
theorem walksD_keys {m : Nat} {d : Addr} {od : Obj} {kvs : List (Key × V)} (hd : σ[m]? = some (some (.ref d))) (h : H d = some (.frz od (.dK kvs))) : WalksD (iKeys (tVar m)) σ H (kvs.map fun p => kV p.1) := fun H1 e R r =>
  ⟨_, hd, d, od, rfl, .inl ⟨kvs, e _ _ h, r _ ⟨fun H => H d = some (.frz od (.dK kvs)), by
    have w := L2.walk_keys (d := d) (o := od) (kvs := kvs)
    rw [List.length_map]
    exact w.mono (fun _ z => z) fun i H x H' _ _ ⟨e1, k, v, hk, ex⟩ => ⟨e1, by rw [List.getElem?_map, hk, ex]; rfl⟩, fun H3 e3 => e3 _ _ h⟩⟩⟩
theorem flat_take {α β : Type} (ys : α → List β) : ∀ (xs : List α) (n : Nat), ((xs.take n).flatMap ys).length ≤ (xs.flatMap ys).length
  | [], _ => by simp
  | x :: xs, 0 => by simp
  | x :: xs, n + 1 => by
    have := flat_take ys xs n
    simp only [List.take_succ_cons, List.flatMap_cons, List.length_append]
    omega
/-- [e for x in xs for y in ys(x)] -/
theorem comp2 {wi wi1 : TI} {xs : List V} {ys : V → List V} {i j : Nat} {vs vs1 : List Nat} (f : V → V) (hw : Walks wi σ H xs) (hz : (xs.flatMap ys).length ≤ 1000) (wp : ∀ x, wipe ((wipe σ vs).set i (some x)) vs = wipe σ vs)
    (wp1 : ∀ x y, wipe ((wipe ((wipe σ vs).set i (some x)) vs1).set j (some y)) vs1 = wipe ((wipe σ vs).set i (some x)) vs1)
    (hi : ∀ x ∈ xs, WalksD wi1 ((wipe σ vs).set i (some x)) H (ys x)) (he : ∀ x ∈ xs, ∀ y ∈ ys x, Gives te ((wipe ((wipe σ vs).set i (some x)) vs1).set j (some y)) H (is (f y))) :
    Gives (tLc2 wi (gName i) tYes wi1 (gName j) tYes te vs vs1) σ H (lstV ((xs.flatMap ys).map f)) := fun H1 e1 Q q => by
  refine hw H1 e1 _ fun J H2 e2 ⟨G, w, g⟩ D hD => ?_
  have nD : ∀ {H3 : Hp} {o : HO}, Ex H2 H3 → Ex H2 (upd H3 D o) := fun {H3 o} e b u hb => by
    rw [upd_ne (ne_of_none hb hD)]
    exact e _ _ hb
  refine ⟨fun n m H' => m = xs.length - n ∧ n ≤ xs.length ∧ H' D = some (.lst (((xs.take n).flatMap ys).map f)) ∧ Ex H2 H', ⟨xs.length, by simp, Nat.zero_le _, by rw [List.take_zero]; exact upd_same, Ex.new hD⟩, ?_⟩
  rintro n m H' ⟨rfl, hn, a1, a2⟩
  by_cases lt : n < xs.length
  · refine .inr ⟨w.goes n H' lt (g _ a2), fun H3 => H3 D = some (.lst (((xs.take (n + 1)).flatMap ys).map f)) ∧ Ex H2 H3, fun H3 p => ⟨xs.length - (n + 1), by omega, rfl, lt, p⟩, fun x H3 y => ?_⟩
    obtain ⟨rfl, hx⟩ := w.yields n H' x H3 lt (g _ a2) y
    have mx := List.mem_of_getElem? hx
    have tk : xs.take (n + 1) = xs.take n ++ [x] := by
      rw [List.take_add_one, hx]
      rfl
    have full : (xs.take (n + 1)).flatMap ys = (xs.take n).flatMap ys ++ ys x := by
      rw [tk, List.flatMap_append]
      simp
    have few : ((xs.take n).flatMap ys).length + (ys x).length ≤ 1000 := by
      have := flat_take ys xs (n + 1)
      rw [full, List.length_append] at this
      omega
    refine ⟨wp x, ?_⟩
    show tYes _ H3 _
    unfold tYes
    dsimp only
    rw [if_pos rfl]
    refine hi x mx H3 ((e1.trans e2).trans a2) _ fun J1 ⟨G1, w1, g1⟩ => ?_
    refine ⟨fun o m H' => m = (ys x).length - o ∧ o ≤ (ys x).length ∧ H' D = some (.lst (((xs.take n).flatMap ys ++ (ys x).take o).map f)) ∧ Ex H2 H', ⟨(ys x).length, by simp, Nat.zero_le _, by
      rw [List.take_zero, List.append_nil]
      exact a1, a2⟩, ?_⟩
    rintro o m H5 ⟨rfl, ho, b1, b2⟩
    have bH := (e1.trans e2).trans b2
    by_cases lo : o < (ys x).length
    · refine .inr ⟨w1.goes o H5 lo (g1 _ bH), fun H6 => H6 D = some (.lst (((xs.take n).flatMap ys ++ (ys x).take (o + 1)).map f)) ∧ Ex H2 H6, fun H6 p => ⟨(ys x).length - (o + 1), by omega, rfl, lo, p⟩, fun z H6 y => ?_⟩
      obtain ⟨rfl, hy⟩ := w1.yields o H5 z H6 lo (g1 _ bH) y
      refine ⟨wp1 x z, ?_⟩
      rw [if_pos rfl]
      refine he x mx z (List.mem_of_getElem? hy) H6 bH _ fun v H7 e7 hv => ⟨_, e7 _ _ b1, ?_, ?_, nD (b2.trans e7)⟩
      · rw [List.length_map, List.length_append, List.length_take, sizeLine_eq]
        omega
      · rw [upd_same, List.take_add_one, hy, ← List.append_assoc, List.map_append (l₁ := (xs.take n).flatMap ys ++ (ys x).take o), show v = f z from hv]
        rfl
    · have e : o = (ys x).length := by omega
      subst e
      rw [List.take_length, ← full] at b1
      exact .inl ⟨w1.stops H5 (g1 _ bH), b1, b2⟩
  · have e : n = xs.length := by omega
    subst e
    rw [List.take_length] at a1
    exact .inl ⟨w.stops H' (g _ a2), q _ _ (e2.trans a2) ⟨D, rfl, a1⟩⟩
end
end Cm

set_option Elab.async false
set_option linter.all false
set_option maxRecDepth 100000
set_option maxHeartbeats 1000000
/-! d == e, dicts whose keys are tuples. -/
namespace DtE
open PySem PySem.Calls PyProof.Rows PyProof.V
section
variable {prog : Program} {w : World} {K : Type} [DecidableEq K] {knd : HeapKind prog w K} {A : Around} {E : Value → Shared → Prop} {s : Shared}
abbrev Ent (K : Type) := List (K × Addr × Value)
inductive Hits (A : Around) (s : Shared) (B : Ent K) : Ent K → Bool → Prop
  | nil : Hits A s B [] true
  | miss {x : K × Addr × Value} {r : Ent K} : atKey B x.1 = none → Hits A s B (x :: r) false
  | hit {x : K × Addr × Value} {p : Addr × Value} {r : Ent K} {e b : Bool} : atKey B x.1 = some p → SeqAt.EqAt A s x.2.2 p.2 e → Hits A s B r b → Hits A s B (x :: r) (e && b)
theorem same {nm : String} {a b : Addr} {xa xb : Ent K} {r : Bool} {Q : Bool → Shared → Prop} (hu : knd.room A) (na : (a == sysModules) = false) (nb : (b == sysModules) = false) (da : s.heap.DictOfH knd a xa) (db : s.heap.DictOfH knd b xb)
    (hits : xa.length = xb.length → Hits A s xb xa r) (h : Q (xa.length == xb.length && r) s) : wpAny (model prog w) A (Builtin.Dict.samePairs nm a b) Q E s := by
  obtain ⟨oa, ea, pa, ga, _, ta, la, ia, _⟩ := da
  obtain ⟨ob, eb, pb, gb, _, tb, lb, ib, ub⟩ := db
  have za := size_of_entries la
  have zb := size_of_entries lb
  rw [← za, ← zb] at h
  unfold Builtin.Dict.samePairs Builtin.Dict.showsAll
  rw [if_neg (show ¬ (a == sysModules) = true by rw [na]; decide), if_neg (show ¬ (b == sysModules) = true by rw [nb]; decide)]
  refine wpAny_bind (wpAny_pure (wpAny_bind (wpAny_pure (wpAny_bind (wpAny_dictEntries ga ta ?_)))))
  refine wpAny_bind (wpAny_dictEntries gb tb ?_)
  by_cases hz : ea.size = eb.size
  case neg =>
    rw [if_pos (by simpa using hz)]
    rw [show (ea.size == eb.size) = false by simpa using hz, Bool.false_and] at h
    exact wpAny_bind (wpAny_rule (wpAny_pure h))
  case pos =>
    have q : Q r s := by simpa [hz] using h
    have g := hits (by rw [← za, ← zb]; exact hz)
    rw [if_neg (by rw [hz]; simp)]
    refine wpAny_bind (wpAny_dictEpoch ga ta (wpAny_bind ?_))
    rw [Std.Legacy.Range.forIn_eq_forIn_range']
    simp only [Std.Legacy.Range.size, Nat.sub_zero, Nat.add_sub_cancel, Nat.div_one]
    refine wpAny_forIn_list _ (fun rest p s' => s' = s ∧ p = (none, ()) ∧ ∃ i, rest = List.range' i (ea.size - i) ∧ i ≤ ea.size ∧ Hits A s xb (xa.drop i) r) _ ?_ ?_ _ _ ⟨rfl, rfl, 0, by simp, Nat.zero_le _, g⟩
    · rintro x rest p s' ⟨rfl, rfl, i, hr, hi, hp⟩
      have lt : i < ea.size := by
        rcases Nat.lt_or_ge i ea.size with z | z
        · exact z
        · rw [Nat.sub_eq_zero_of_le z] at hr
          simp at hr
      have e1 : ea.size - i = (ea.size - (i + 1)) + 1 := by omega
      rw [e1, List.range'_succ] at hr
      obtain ⟨rfl, hr2⟩ := List.cons.inj hr
      have lt' : x < xa.length := by rw [← za]; exact lt
      obtain ⟨y, hy⟩ : ∃ y, xa[x] = y := ⟨_, rfl⟩
      have hd : xa.drop x = y :: xa.drop (x + 1) := by rw [← hy]; exact List.drop_eq_getElem_cons lt'
      have ex : ea[x]? = some (entryOfKey knd y) := by rw [entry_at la x, List.getElem?_eq_getElem lt', hy]; rfl
      have iy : knd.is s'.heap y.1 y.2.1 := ia y (by rw [← hy]; exact List.getElem_mem lt')
      rw [hd] at hp
      refine wpAny_bind (wpAny_dictEntries ga ta ?_)
      rw [ex]
      show wpAny _ _ (holding [(entryOfKey knd y).key, (entryOfKey knd y).val] _ >>= _) _ _ _
      refine wpAny_bind (wpAny_holding (wpAny_bind ?_))
      refine wpAny_dictFind_heap hu iy gb tb lb ib ub (fun hno => ?_) fun j p hj => ?_
      · have hn := atKey_none_of_get hno
        cases hp with
        | miss _ =>
          refine wpAny_pure ?_
          show wpAny _ _ (if (!false) = true then _ else _) _ _ _
          rw [if_pos (by decide)]
          exact wpAny_pure (wpAny_pure q)
        | hit h1 _ _ =>
          rw [hn] at h1
          cases h1
      · have hn := atKey_of_get ub hj
        refine wpAny_bind (wpAny_dictEntries gb tb ?_)
        rw [entry_at lb j, hj]
        cases hp with
        | miss h1 =>
          rw [hn] at h1
          cases h1
        | @hit _ p' _ e b' h1 h2 h3 =>
          rw [hn] at h1
          obtain rfl := Option.some.inj h1
          refine wpAny_holding (h2 prog w _ _ ?_)
          cases e with
          | false =>
            show wpAny _ _ (if (!false) = true then _ else _) _ _ _
            rw [if_pos (by decide)]
            exact wpAny_pure (wpAny_pure (by simpa using q))
          | true =>
            show wpAny _ _ (if (!true) = true then _ else _) _ _ _
            rw [if_neg (by decide)]
            refine wpAny_bind (wpAny_dictEpoch ga ta ?_)
            rw [if_neg (by simp)]
            exact wpAny_pure ⟨rfl, rfl, x + 1, hr2, lt, by simpa using h3⟩
    · rintro p s' ⟨rfl, rfl, i, hr, hi, hp⟩
      have e1 : i = ea.size := by
        rcases Nat.lt_or_ge i ea.size with z | z
        · have e2 : ea.size - i = (ea.size - (i + 1)) + 1 := by omega
          rw [e2, List.range'_succ] at hr
          cases hr
        · exact Nat.le_antisymm hi z
      rw [e1, za, List.drop_length] at hp
      cases hp
      exact wpAny_pure q
theorem eq_at {a b : Addr} {xa xb : Ent K} {r : Bool} {Q : Value → Shared → Prop} (hr : knd.room A.in1) (na : (a == sysModules) = false) (nb : (b == sysModules) = false) (da : s.heap.DictOfH knd a xa) (db : s.heap.DictOfH knd b xb) (hu : A.units < cLine)
    (hits : xa.length = xb.length → Hits A.in1 s xb xa r) (h : Q (.bool (xa.length == xb.length && r)) s) : wpAny (model prog w) A (compareOp .Eq (.ref a) (.ref b)) Q E s := by
  refine wpAny_richCompare_same_room (op := .Eq) da.typeIs db.typeIs PySem.F.slot_dict_eq (wpAny_call_entry PySem.F.slot_dict_eq da.typeIs PySem.F.entry_dict_eq ?_ (PySem.F.args_dict_eq_2 _ _)) hu
  show wpAny _ _ (Builtin.Dict.dictSlotArgs "__eq__" ⟨[.ref a, .ref b], []⟩ >>= _) _ _ s
  unfold Builtin.Dict.dictSlotArgs
  refine wpAny_bind (wpAny_bind (wpAny_notOrdered_dict da.typeIs (by
    show wpAny _ _ (pure (Value.ref a, Value.ref b)) _ _ s
    refine wpAny_pure (wpAny_bind (wpAny_isInstance (T := "dict") db.typeIs PySem.F.sub_dict_dict ?_))
    simp only [Bool.not_true, Bool.false_eq_true, if_false]
    refine wpAny_bind (wpAny_pure (wpAny_bind (wpAny_pure (wpAny_bind (same hr na nb da db hits ?_)))))
    exact wpAny_pure ⟨_, rfl, (by intro x; cases x), by simpa using h⟩)))
end
end DtE
namespace DtE
open PySem PySem.Spec PyProof.Rows L2
/-- amounts by tuples -/
abbrev TRow := List (List Key × Int)
def tents (r : TRow) : List (List Key × V) := r.map fun t => (t.1, .int t.2)
def lookT (r : TRow) (k : List Key) : Option Int := (r.find? fun t => decide (t.1 = k)).map (·.2)
def sameT (a b : TRow) : Bool := a.length == b.length && a.all fun t => decide (lookT b t.1 = some t.2)
theorem valV_tents (k : List Key) : ∀ r : TRow, valV (tents r) k = (lookT r k).map V.int
  | [] => rfl
  | t :: r => by
    have ih := valV_tents k r
    unfold tents lookT at ih ⊢
    by_cases e : t.1 = k
    · rw [List.map_cons, valV_pos e, List.find?_cons, decide_eq_true e] <;> rfl
    · rw [List.map_cons, valV_neg e, ih, List.find?_cons, decide_eq_false e]
theorem hits_of {H : Hp} {A : Around} {s : Shared} {b : TRow} {xb : List (List Key × Addr × Value)} (rb : KT H (tents b) xb) : ∀ {a : TRow} {xa : List (List Key × Addr × Value)}, KT H (tents a) xa → Hits A s xb xa (a.all fun t => decide (lookT b t.1 = some t.2))
  | [], _, r => by
    cases r
    exact .nil
  | t :: a, _, r => by
    cases r with
    | @cons _ q _ _ h h2 =>
      obtain ⟨e1, _, ev⟩ := h
      have ih := hits_of (A := A) (s := s) rb h2
      have z := rb.val t.1
      rw [valV_tents] at z
      rw [List.all_cons]
      cases c : lookT b t.1 with
      | none =>
        rw [c] at z
        have z2 : atKey xb q.1 = none := by
          rw [← e1]
          cases y : atKey xb t.1 with
          | none => rfl
          | some p =>
            rw [y] at z
            exact z.elim
        exact .miss z2
      | some n =>
        rw [c] at z
        cases y : atKey xb t.1 with
        | none =>
          rw [y] at z
          exact z.elim
        | some p =>
          rw [y] at z
          obtain ⟨u, eu⟩ : ∃ u, p.2 = Value.int n u := z
          obtain ⟨u2, eu2⟩ : ∃ u, q.2.2 = Value.int t.2 u := ev
          have eq : SeqAt.EqAt A s q.2.2 p.2 (decide (t.2 = n)) := by
            have f := PySem.W.keq_flat (A := A) (s := s) (v := q.2.2) (y := p.2) (d := .int t.2) (e := .int n) (by rw [eu2]; exact PyProof.V.Flat.int _ _) (by rw [eu]; exact PyProof.V.Flat.int _ _)
            have e3 : PyData.eqv (.int t.2) (.int n) = decide (t.2 = n) := by
              by_cases w : t.2 = n
              · simp [PyData.eqv, w]
              · simp [PyData.eqv, w]
            rw [e3] at f
            exact f
          have e4 : decide (some n = some t.2) = decide (t.2 = n) := by
            by_cases w : t.2 = n
            · rw [w, decide_eq_true rfl, decide_eq_true rfl]
            · rw [decide_eq_false w, decide_eq_false fun h => w (Option.some.inj h).symm]
          rw [e4]
          exact .hit (p := p) (by rw [← e1]; exact y) eq ih
def rEqT : R2 := fun x y H Q => ∃ (a b : Addr) (r r' : TRow), x = .ref a ∧ y = .ref b ∧ H a = some (.dT (tents r)) ∧ H b = some (.dT (tents r')) ∧ Q (.bl (sameT r r')) H
theorem op_eqT {X : Cx} (hu : X.A.units + 1 < cLine) : OpR X (compareOp .Eq) rEqT := by
  intro pins s σ H x y v u Q I rx ry h
  obtain ⟨a, b, r, r', rfl, rfl, ha, hb, q⟩ := h
  cases rx
  cases ry
  obtain ⟨_, na, xa, ra, da⟩ := dt_of I.hok ha
  obtain ⟨_, nb, xb, rb, db⟩ := dt_of I.hok hb
  refine eq_at (knd := tupleKind (mixKind X.prog X.w)) (by show X.A.units + 1 < cLine; exact hu) na nb da db (by omega) (fun _ => hits_of rb ra) ?_
  have l1 : xa.length = r.length := by rw [← Paired.length ra]; exact List.length_map _
  have l2 : xb.length = r'.length := by rw [← Paired.length rb]; exact List.length_map _
  exact fin_bl I q (by rw [l1, l2]; rfl)
end DtE

set_option Elab.async false
set_option linter.all false
set_option maxRecDepth 100000
set_option maxHeartbeats 4000000
/-! Names in their order; what a side tells. -/
namespace Fk
open PySem PySem.Spec PyProof.Rows L2 EvP
def leS (a b : Str) : Prop := a.cps.toList ≤ b.cps.toList
theorem leS_trans {a b c : Str} (h : leS a b) (k : leS b c) : leS a c := List.le_trans h k
theorem leS_anti {a b : Str} (h : leS a b) (k : leS b a) : a = b := by
  have := List.le_antisymm h k
  cases a
  cases b
  exact congrArg Str.mk (Array.toList_inj.mp this)
theorem leS_total (a b : Str) : leS a b ∨ leS b a := List.le_total _ _
theorem rising_pairwise : ∀ (l : List Str) (p : Str), risingS p l = true → (p :: l).Pairwise leS
  | [], _, _ => List.pairwise_singleton _ _
  | x :: r, p, h => by
    obtain ⟨h1, h2⟩ := Bool.and_eq_true_iff.mp (show (!ltCps x.cps.toList p.cps.toList && risingS x r) = true from h)
    have h3 : leS p x := by
      rw [ltCps_eq] at h1
      exact List.not_lt.mp (by simpa using h1)
    have ih := rising_pairwise r x h2
    refine List.pairwise_cons.mpr ⟨fun y hy => ?_, ih⟩
    rcases List.mem_cons.mp hy with rfl | hy
    · exact h3
    · exact leS_trans h3 ((List.pairwise_cons.mp ih).1 y hy)
theorem sorted_pairwise : ∀ {l : List Str}, sortedS l = true → l.Pairwise leS
  | [], _ => List.Pairwise.nil
  | x :: r, h => rising_pairwise r x h
/-- names in their order -/
def srt (xs : List Str) : List Str := xs.mergeSort fun a b => decide (a.cps.toList ≤ b.cps.toList)
theorem srt_pairwise (xs : List Str) : (srt xs).Pairwise leS := by
  have := List.pairwise_mergeSort (le := fun a b : Str => decide (a.cps.toList ≤ b.cps.toList)) (fun a b c h k => decide_eq_true (List.le_trans (of_decide_eq_true h) (of_decide_eq_true k)))
    (fun a b => by
      rcases leS_total a b with h | h
      · rw [decide_eq_true (show a.cps.toList ≤ b.cps.toList from h)]
        rfl
      · rw [decide_eq_true (show b.cps.toList ≤ a.cps.toList from h), Bool.or_true]) xs
  exact this.imp fun h => of_decide_eq_true h
theorem srt_perm (xs : List Str) : (srt xs).Perm xs := List.mergeSort_perm xs _
theorem srt_of {xs ys : List Str} (p : ys.Perm xs) (h : sortedS ys = true) : ys = srt xs :=
  List.Perm.eq_of_pairwise (le := leS) (fun _ _ _ _ h k => leS_anti h k) (sorted_pairwise h) (srt_pairwise xs) (p.trans (srt_perm xs).symm)
theorem srt_eq {xs ys : List Str} (p : ys.Perm xs) : srt ys = srt xs :=
  List.Perm.eq_of_pairwise (le := leS) (fun _ _ _ _ h k => leS_anti h k) (srt_pairwise ys) (srt_pairwise xs) ((srt_perm ys).trans (p.trans (srt_perm xs).symm))
/-- names with amounts -/
abbrev Row := List (Str × Int)
def amt (kvs : Row) (n : Str) : Int := (kvs.lookup n).getD 0
/-- all names in their order, each with its amount -/
def asc (kvs : Row) : Row := (srt (kvs.map (·.1))).map fun n => (n, amt kvs n)
/-- those above 0 -/
def told (kvs : Row) : Row := (asc kvs).filter fun t => decide (0 < t.2)
/-- as entries of a dict -/
def ents (kvs : Row) : List (Key × V) := kvs.map fun t => ((Sum.inr t.1 : Key), V.int t.2)
theorem valV_ents : ∀ (kvs : Row) (n : Str), valV (ents kvs) (Sum.inr n) = (kvs.lookup n).map V.int
  | [], _ => rfl
  | t :: r, n => by
    by_cases h : t.1 = n
    · rw [show ents (t :: r) = ((Sum.inr t.1 : Key), V.int t.2) :: ents r from rfl, valV_pos (by rw [h]), show ((t :: r).lookup n) = some t.2 by
        obtain ⟨a, b⟩ := t
        simp only at h
        subst h
        simp [List.lookup]]
      rfl
    · rw [show ents (t :: r) = ((Sum.inr t.1 : Key), V.int t.2) :: ents r from rfl, valV_neg (fun z => h (Sum.inr.inj z)), valV_ents r n, show ((t :: r).lookup n) = r.lookup n by
        obtain ⟨a, b⟩ := t
        have : (n == a) = false := beq_eq_false_iff_ne.mpr fun z => h z.symm
        simp [List.lookup, this]]
theorem lookup_mem : ∀ {kvs : Row} {n : Str}, n ∈ kvs.map (·.1) → ∃ a, kvs.lookup n = some a ∧ (n, a) ∈ kvs
  | (m, b) :: r, n, h => by
    by_cases e : n = m
    · subst e
      exact ⟨b, by simp [List.lookup], .head _⟩
    · rcases List.mem_cons.mp h with h | h
      · exact absurd h e
      · obtain ⟨a, h1, h2⟩ := lookup_mem h
        have : (n == m) = false := beq_eq_false_iff_ne.mpr e
        exact ⟨a, by simp [List.lookup, this, h1], .tail _ h2⟩
theorem amt_of {kvs : Row} {n : Str} (h : n ∈ kvs.map (·.1)) : kvs.lookup n = some (amt kvs n) ∧ (n, amt kvs n) ∈ kvs := by
  obtain ⟨a, h1, h2⟩ := lookup_mem h
  unfold amt
  rw [h1]
  exact ⟨rfl, h2⟩
theorem mem_srt {xs : List Str} {n : Str} : n ∈ srt xs ↔ n ∈ xs := (srt_perm xs).mem_iff
def meth (j : Nat) : Stmt := match top 24 with
  | .ClassDef _ _ _ body _ _ _ _ _ _ _ => body.getD j (.Pass ⟨0, 0, 0, 0⟩)
  | _ => .Pass ⟨0, 0, 0, 0⟩
abbrev sInit : Stmt := meth 0
end Fk

set_option Elab.async false
set_option linter.all false
set_option maxRecDepth 100000
set_option maxHeartbeats 4000000
/-! What calls and signs give, by values. -/
namespace Cm
open PySem PySem.Spec PyProof.Rows L2 EvP
def dictV (kvs : List (Key × V)) : PR := ⟨fun v H => ∃ a, v = .ref a ∧ H a = some (.dK kvs), fun _ _ _ e ⟨a, h1, h2⟩ => ⟨a, h1, e _ _ h2⟩⟩
/-- the same, new over H0 -/
def dictN (H0 : Hp) (kvs : List (Key × V)) : PR := ⟨fun v H => ∃ a, v = .ref a ∧ H a = some (.dK kvs) ∧ H0 a = none, fun _ _ _ e ⟨a, h1, h2, h3⟩ => ⟨a, h1, e _ _ h2, h3⟩⟩
section
variable {K : PySem.W.Frag} {σ : L2.St} {H : Hp} {te tl tv : TE} {xs : List V} {i j : Nat} {vs : List Nat}
theorem g_sorted {ss : List Str} (h : Gives te σ H (lstV (ss.map V.str))) (hz : ss.length < 64) : Gives (tCB (rSortedS K) (tCons te tNil)) σ H (lstV ((Fk.srt ss).map V.str)) := fun H1 e Q q =>
  h H1 e _ fun v H2 e2 ⟨a, ev, ha⟩ => ⟨a, ss, by rw [ev], SqL.of ha, hz, fun ys p pm so hp => by
    rw [Fk.srt_of pm so]
    exact q _ _ (e2.trans (Ex.new hp)) ⟨p, rfl, upd_same⟩⟩
theorem g_sum {ns : List Int} (h : Gives te σ H (lstV (ns.map V.int))) : Gives (tCB (rSum K) (tCons te tNil)) σ H (is (.int ns.sum)) := fun H1 e Q q =>
  h H1 e _ fun v H2 e2 ⟨a, ev, ha⟩ => ⟨a, ns, by rw [ev], SqL.of ha, q _ _ e2 rfl⟩
theorem g_tupV (h : Gives te σ H (lstV xs)) : Gives (tThen te (kTup K)) σ H (tupV xs) := fun H1 e Q q =>
  h H1 e _ fun v H2 e2 ⟨a, ev, ha⟩ => .inl ⟨a, xs, ev, SqL.of ha, fun p hp => q _ _ (e2.trans (Ex.new hp)) ⟨p, rfl, upd_same⟩⟩
theorem g_tup {H0 : Hp} {Ps : List PR} (h : Gives te σ H (lst H0 Ps)) : Gives (tThen te (kTup K)) σ H (tup Ps) := fun H1 e Q q =>
  h H1 e _ fun v H2 e2 ⟨a, ws, ev, ha, _, hs⟩ => .inl ⟨a, ws, ev, SqL.of ha, fun p hp => q _ _ (e2.trans (Ex.new hp)) ⟨p, ws, rfl, upd_same, hs.ex (Ex.new hp)⟩⟩
/-- d[k], d in slot i, k in slot j -/
theorem g_get {d : Addr} {kvs : List (Key × V)} {k : Key} {v : V} (hi : σ[i]? = some (some (.ref d))) (hj : σ[j]? = some (some (kV k))) (hd : H d = some (.dK kvs)) (hv : valV kvs k = some v) : Gives (tDGet (tVar i) (tVar j)) σ H (is v) := fun H1 e Q q =>
  ⟨_, hi, _, hj, d, v, rfl, by rw [← hv]; exact DGet.k (e _ _ hd), q _ _ (Ex.refl H1) rfl⟩
/-- x > n -/
theorem t_gt {a b : TE} {x y : Int} (h : Gives a σ H (is (.int x))) (k : Gives b σ H (is (.int y))) : ∀ H1, Ex H H1 → ∀ Q : Bool → Hp → Prop, (∀ H2, Ex H1 H2 → Q (decide (y < x)) H2) → tTest (tOp (rI0 fun i j => .bl (decide (j < i))) a b) σ H1 Q := fun H1 e Q q =>
  h H1 e _ fun v H2 e2 ev => k H2 (e.trans e2) _ fun u H3 e3 eu => ⟨x, y, ev, eu, _, rfl, q _ (e2.trans e3)⟩
/-- {n: e for n in names} over a tuple of names -/
theorem comp_dict {ss : List Str} (f : Str → V) (h : Gives tl σ H (tupV (ss.map V.str))) (hz : ss.length ≤ 1000) (nod : ss.Nodup) (hi : i < σ.length) (wp : ∀ x, wipe ((wipe σ vs).set i (some x)) vs = wipe σ vs)
    (he : ∀ n ∈ ss, Gives tv ((wipe σ vs).set i (some (.str n))) H (is (f n))) : Gives (tDc (iTup K tl) (gName i) tYes (tVar i) tv vs) σ H (dictN H (ss.map fun n => ((Sum.inr n : Key), f n))) := fun H1 e1 Q q => by
  refine h H1 e1 _ fun v H2 e2 ⟨a, ev, ha⟩ => ⟨a, ev, ⟨_, SqT.of ha⟩, fun D hD => ?_⟩
  refine dc_tup (xs := ss.map V.str) (fun j H' => H' D = some (.dK ((ss.take j).map fun n => ((Sum.inr n : Key), f n))) ∧ Ex H2 H') ⟨by rw [List.take_zero]; exact upd_same, Ex.new hD⟩ (fun j H' _ ⟨_, e3⟩ => SqT.of (e3 _ _ ha)) (fun j x H' hx ⟨a1, a2⟩ => ?_) (fun H' ⟨a1, a2⟩ => ?_)
  · rw [List.getElem?_map] at hx
    obtain ⟨n, hn, rfl⟩ := Option.map_eq_some_iff.mp hx
    have eH := (e1.trans e2).trans a2
    have lw : (wipe σ vs).length = σ.length := wipe_length σ vs
    refine ⟨wp _, .str n, by rw [List.getElem?_set_self (by rw [lw]; exact hi)], he n (List.mem_of_getElem? hn) _ eH _ fun v H4 e4 hv => ⟨_, Sum.inr n, rfl, e4 _ _ a1, ?_, ?_, fun b o hb => ?_⟩⟩
    · rw [List.length_map, List.length_take, sizeLine_eq]
      omega
    · have new : valV ((ss.take j).map fun n => ((Sum.inr n : Key), f n)) (Sum.inr n) = none := by
        have no : ¬ (((ss.take j).map fun n => ((Sum.inr n : Key), f n)).any fun kv => decide (kv.1 = Sum.inr n)) = true := by
          intro y
          obtain ⟨p, hp, ep⟩ := List.any_eq_true.mp y
          obtain ⟨m, hm, rfl⟩ := List.mem_map.mp hp
          have e : m = n := Sum.inr.inj (of_decide_eq_true ep)
          rw [e] at hm
          obtain ⟨t, ht, et⟩ := List.getElem_of_mem hm
          rw [List.getElem_take] at et
          have lt : t < j := by
            rw [List.length_take] at ht
            omega
          obtain ⟨jl, ej⟩ := List.getElem?_eq_some_iff.mp hn
          exact List.pairwise_iff_getElem.mp nod t j (by rw [List.length_take] at ht; omega) jl lt (et.trans ej.symm)
        rw [valV_any] at no
        simpa using no
      rw [upd_same, putK_new _ new, List.take_add_one, hn, List.map_append, show v = f n from hv]
      rfl
    · rw [upd_ne (ne_of_none hb hD)]
      exact e4 _ _ (a2 _ _ hb)
  · rw [List.length_map, List.take_length] at a1
    exact q _ _ (e2.trans a2) ⟨D, rfl, a1, (e1.trans e2).back hD⟩
end
end Cm

set_option Elab.async false
set_option linter.all false
set_option maxRecDepth 100000
set_option maxHeartbeats 1000000
/-! {(a, x): worth for a, row in rows.items() for x, worth in row.items() if worth > 0}. -/
namespace Tb
open PySem PySem.Spec PyProof.Rows L2 EvP Cm Fk DtE
/-- names with their rows: the row's address and what it holds -/
abbrev Tab := List (Str × Addr × Fk.Row)
def key2 (a x : Str) : List Key := [Sum.inr a, Sum.inr x]
def wrow (a : Str) (r : Fk.Row) : TRow := (r.filter fun e => decide (0 < e.2)).map fun e => (key2 a e.1, e.2)
def worths (T : Tab) : TRow := T.flatMap fun t => wrow t.1 t.2.2
/-- the dict of rows at d -/
structure TabAt (H : Hp) (d : Addr) (T : Tab) : Prop where
  at_ : H d = some (.dK (T.map fun t => (Sum.inr t.1, V.ref t.2.1)))
  row : ∀ t ∈ T, H t.2.1 = some (.dK (ents t.2.2))
/-- the same, locked -/
structure TabF (H : Hp) (d : Addr) (T : Tab) : Prop where
  at_ : ∃ od, H d = some (.frz od (.dK (T.map fun t => (Sum.inr t.1, V.ref t.2.1))))
  row : ∀ t ∈ T, ∃ od, H t.2.1 = some (.frz od (.dK (ents t.2.2)))
def dictT (H0 : Hp) (r : TRow) : PR := ⟨fun v H => ∃ a, v = .ref a ∧ H a = some (.dT (tents r)) ∧ H0 a = none, fun _ _ _ e ⟨a, h1, h2, h3⟩ => ⟨a, h1, e _ _ h2, h3⟩⟩
theorem wrow_take (a : Str) {r : Fk.Row} {o : Nat} {e : Str × Int} (h : r[o]? = some e) : wrow a (r.take (o + 1)) = wrow a (r.take o) ++ if 0 < e.2 then [(key2 a e.1, e.2)] else [] := by
  unfold wrow
  rw [List.take_add_one, h, Option.toList_some, List.filter_append, List.map_append]
  by_cases c : 0 < e.2
  · rw [if_pos c, List.filter_cons, decide_eq_true c]
    rfl
  · rw [if_neg c, List.filter_cons, decide_eq_false c]
    rfl
theorem wrow_sub (a : Str) (r : Fk.Row) (o : Nat) : (wrow a (r.take o)).Sublist (wrow a r) := ((List.take_sublist o r).filter _).map _
theorem flat_sub {α β : Type} (f : α → List β) : ∀ (l : List α) (n : Nat), ((l.take n).flatMap f).Sublist (l.flatMap f)
  | [], _ => by simp
  | x :: l, 0 => by simp
  | x :: l, n + 1 => by
    rw [List.take_succ_cons, List.flatMap_cons, List.flatMap_cons]
    exact (List.Sublist.refl _).append (flat_sub f l n)
theorem valV_none {r : TRow} {k : List Key} {n : Int} (h : ((r ++ [(k, n)]).map (·.1)).Nodup) : valV (tents r) k = none := by
  rw [valV_tents]
  have z : lookT r k = none := by
    unfold lookT
    rw [Option.map_eq_none_iff, List.find?_eq_none]
    intro t ht e
    rw [List.map_append, List.nodup_append] at h
    exact h.2.2 t.1 (List.mem_map.mpr ⟨t, ht, rfl⟩) k (by simp) (of_decide_eq_true e)
  rw [z]
  rfl
theorem tents_put {r : TRow} {k : List Key} {n : Int} (h : ((r ++ [(k, n)]).map (·.1)).Nodup) : putK (tents r) k (.int n) = tents (r ++ [(k, n)]) := by
  rw [putK_new _ (valV_none h)]
  unfold tents
  rw [List.map_append]
  rfl
section
variable {K : PySem.W.Frag} {Hf : Hp} {d x u : Addr} {T : Tab}
abbrev σ0 (x d u : Addr) : L2.St := [some (.ref x), some (.ref d), some (.ref u), none, none, none, none, none]
theorem comp_worths (h : TabF Hf d T) (nod : ((worths T).map (·.1)).Nodup) (few : (worths T).length ≤ 1000) :
    Gives (Dc2.tDc2 (iItems (tVar 1)) (gTup K 2 (gCons (gName 5) (gCons (gName 3) gNil))) tYes (iItems (tVar 3)) (gTup K 2 (gCons (gName 6) (gCons (gName 7) gNil))) (tTest (tOp (rI0 fun i j => .bl (decide (j < i))) (tVar 7) (tC (.int 0))))
      (tTup (tCons (tVar 5) (tCons (tVar 6) tNil))) (tVar 7) [5, 3, 6, 7] [6, 7]) (σ0 x d u) Hf (dictT Hf (worths T)) := fun H1 e1 Q q => by
  obtain ⟨od, hd⟩ := h.at_
  refine ⟨_, rfl, d, od, _, rfl, e1 _ _ hd, fun D hD => ?_⟩
  have nD : ∀ {H3 : Hp} {o : HO}, Ex H1 H3 → Ex H1 (upd H3 D o) := fun {H3 o} e b w hb => by
    rw [upd_ne (ne_of_none hb hD)]
    exact e _ _ hb
  have w := walk_items (d := d) (o := od) (kvs := T.map fun t => ((Sum.inr t.1 : Key), V.ref t.2.1))
  rw [List.length_map] at w
  refine ⟨fun n m H' => m = T.length - n ∧ n ≤ T.length ∧ H' D = some (.dT (tents ((T.take n).flatMap fun t => wrow t.1 t.2.2))) ∧ Ex H1 H', ⟨T.length, by simp, Nat.zero_le _, by rw [List.take_zero]; exact upd_same, Ex.new hD⟩, ?_⟩
  rintro n m H' ⟨rfl, hn, a1, a2⟩
  have hd' := (e1.trans a2) _ _ hd
  by_cases lt : n < T.length
  · refine .inr ⟨w.goes n H' lt hd', fun H3 => H3 D = some (.dT (tents ((T.take (n + 1)).flatMap fun t => wrow t.1 t.2.2))) ∧ Ex H1 H3, fun H3 p => ⟨T.length - (n + 1), by omega, rfl, lt, p⟩, fun z H3 y => ?_⟩
    obtain ⟨P, y1, y2, rfl, nP, rfl, hy1, hy2⟩ := w.yields n H' z H3 lt hd' y
    obtain ⟨t, ht⟩ : ∃ t, T[n]? = some t := ⟨T[n], List.getElem?_eq_getElem lt⟩
    have mt := List.mem_of_getElem? ht
    simp only [List.getElem?_map, ht, Option.map_some, Option.some.injEq] at hy1 hy2
    subst hy1 hy2
    have eP := Ex.new (o := .tup [kV (Sum.inr t.1), V.ref t.2.1]) nP
    have a1' := eP _ _ a1
    have a2' := a2.trans eP
    generalize hH4 : upd H' P (.tup [kV (Sum.inr t.1), V.ref t.2.1]) = H4 at a1' a2' eP
    have hP : H4 P = some (.tup [.str t.1, V.ref t.2.1]) := by
      rw [← hH4]
      exact upd_same
    refine ⟨P, _, rfl, SqT.of hP, rfl, _, _, rfl, _, _, rfl, rfl, rfl, ?_⟩
    show tYes _ H4 _
    unfold tYes
    dsimp only
    rw [if_pos rfl]
    obtain ⟨orow, hr⟩ := h.row t mt
    have w1 := walk_items (d := t.2.1) (o := orow) (kvs := ents t.2.2)
    have le : (ents t.2.2).length = t.2.2.length := List.length_map _
    rw [le] at w1
    have tk : (T.take (n + 1)).flatMap (fun t => wrow t.1 t.2.2) = (T.take n).flatMap (fun t => wrow t.1 t.2.2) ++ wrow t.1 t.2.2 := by
      rw [List.take_add_one, ht, List.flatMap_append]
      simp
    refine ⟨_, rfl, t.2.1, orow, _, rfl, (e1.trans a2') _ _ hr, ?_⟩
    refine ⟨fun o m H' => m = t.2.2.length - o ∧ o ≤ t.2.2.length ∧ H' D = some (.dT (tents ((T.take n).flatMap (fun t => wrow t.1 t.2.2) ++ wrow t.1 (t.2.2.take o)))) ∧ Ex H1 H', ⟨t.2.2.length, by simp, Nat.zero_le _, by
      rw [List.take_zero]
      unfold wrow
      rw [List.filter_nil, List.map_nil, List.append_nil]
      exact a1', a2'⟩, ?_⟩
    rintro o m H5 ⟨rfl, ho, b1, b2⟩
    have hr5 := (e1.trans b2) _ _ hr
    by_cases lo : o < t.2.2.length
    · refine .inr ⟨w1.goes o H5 lo hr5, fun H6 => H6 D = some (.dT (tents ((T.take n).flatMap (fun t => wrow t.1 t.2.2) ++ wrow t.1 (t.2.2.take (o + 1))))) ∧ Ex H1 H6, fun H6 p => ⟨t.2.2.length - (o + 1), by omega, rfl, lo, p⟩, fun z H6 y => ?_⟩
      obtain ⟨P2, z1, z2, rfl, nP2, rfl, hz1, hz2⟩ := w1.yields o H5 z H6 lo hr5 y
      obtain ⟨e, he⟩ : ∃ e, t.2.2[o]? = some e := ⟨t.2.2[o], List.getElem?_eq_getElem lo⟩
      unfold ents at hz1 hz2
      simp only [List.getElem?_map, he, Option.map_some, Option.some.injEq] at hz1 hz2
      subst hz1 hz2
      have eP2 := Ex.new (o := .tup [kV (Sum.inr e.1), V.int e.2]) nP2
      have b1' := eP2 _ _ b1
      have b2' := b2.trans eP2
      generalize hH7 : upd H5 P2 (.tup [kV (Sum.inr e.1), V.int e.2]) = H7 at b1' b2' eP2
      have hP2 : H7 P2 = some (.tup [.str e.1, V.int e.2]) := by
        rw [← hH7]
        exact upd_same
      refine ⟨P2, _, rfl, SqT.of hP2, rfl, _, _, rfl, _, _, rfl, rfl, rfl, ?_⟩
      refine ⟨_, rfl, e.2, 0, rfl, rfl, _, rfl, ?_⟩
      rw [wrow_take t.1 he]
      by_cases c : 0 < e.2
      · rw [decide_eq_true c]
        dsimp only
        rw [if_pos rfl, if_pos c]
        refine ⟨_, rfl, _, rfl, by show 2 ≤ sizeLine; decide, fun p np => ?_⟩
        have sub : ((T.take n).flatMap (fun t => wrow t.1 t.2.2) ++ wrow t.1 (t.2.2.take o) ++ [(key2 t.1 e.1, e.2)]).Sublist (worths T) := by
          have s1 := wrow_sub t.1 t.2.2 (o + 1)
          rw [wrow_take t.1 he, if_pos c] at s1
          have s2 := flat_sub (fun t : Str × Addr × Fk.Row => wrow t.1 t.2.2) T (n + 1)
          rw [tk] at s2
          rw [List.append_assoc]
          exact ((List.Sublist.refl _).append s1).trans s2
        have nd' := nod.sublist (sub.map (·.1))
        have ep := Ex.new (o := .tup [V.str t.1, V.str e.1]) np
        refine ⟨_, rfl, _, key2 t.1 e.1, p, rfl, upd_same, ep _ _ b1', ?_, ?_, nD (b2'.trans ep)⟩
        · have l := sub.length_le
          unfold tents
          rw [List.length_map, sizeLine_eq]
          rw [List.length_append, List.length_singleton] at l
          omega
        · rw [upd_same, tents_put nd', List.append_assoc]
      · rw [decide_eq_false c]
        dsimp only
        rw [if_neg Bool.false_ne_true, if_neg c, List.append_nil]
        exact ⟨b1', b2'⟩
    · have e : o = t.2.2.length := by omega
      subst e
      rw [List.take_length, ← tk] at b1
      exact .inl ⟨w1.stops H5 hr5, b1, b2⟩
  · have e : n = T.length := by omega
    subst e
    rw [List.take_length] at a1
    exact .inl ⟨w.stops H' hd', q _ _ a2 ⟨D, rfl, a1, e1.back hD⟩⟩
end
end Tb

set_option Elab.async false
set_option linter.all false
set_option maxRecDepth 100000
set_option maxHeartbeats 2000000
/-! is_row, is_pair, unlike, joined, ascending, check_table. -/
namespace Tb
open PySem PySem.Spec PyProof.Rows L2 EvP Cm Fk DtE
theorem SqL.typ {K : PySem.W.Frag} {H : Hp} {a : Addr} {xs : List V} (h : SqL K H a xs) : TyX K H (.ref a) (.type "list") := by
  rcases h with (h | ⟨o, h⟩) | ⟨o, its, n, h, c, _⟩
  · exact .base (.lst h)
  · exact .base (.frz h)
  · exact .kList h c
theorem SqT.typ {K : PySem.W.Frag} {H : Hp} {a : Addr} {xs : List V} (h : SqT K H a xs) : TyX K H (.ref a) (.type "tuple") := by
  rcases h with (h | ⟨o, h⟩) | ⟨o, its, n, h, c, _⟩
  · exact .base (.tup h)
  · exact .fTuple h
  · exact .kTuple h c
theorem SqL.keep {K : PySem.W.Frag} {H H' : Hp} {a : Addr} {xs : List V} (e : Ex H H') (h : SqL K H a xs) : SqL K H' a xs := by
  rcases h with (h | ⟨o, h⟩) | h
  · exact .inl (.inl (e _ _ h))
  · exact .inl (.inr ⟨o, e _ _ h⟩)
  · exact .inr h
theorem SqT.keep {K : PySem.W.Frag} {H H' : Hp} {a : Addr} {xs : List V} (e : Ex H H') (h : SqT K H a xs) : SqT K H' a xs := by
  rcases h with (h | ⟨o, h⟩) | h
  · exact .inl (.inl (e _ _ h))
  · exact .inl (.inr ⟨o, e _ _ h⟩)
  · exact .inr h
theorem SqA.keep {K : PySem.W.Frag} {H H' : Hp} {a : Addr} {xs : List V} (e : Ex H H') (h : SqA K H a xs) : SqA K H' a xs := h.elim (fun h => .inl (SqL.keep e h)) fun h => .inr (SqT.keep e h)
section
variable {P : Program} {w : World} {K : PySem.W.Frag} {mg : Str → Option Value} {base : Heap} {f fN : Addr} {fd fdN : FuncData}
theorem ok_row (F : Fun K "is_row" "is_row" sRow f fd) (T : Blt mg) (R : BltR mg) : FnOk P w K mg base CX0 1 f fd ["value"] (spRow K) := by
  refine F.ok scRow (fun vs H Q E h => ?_) (fun cdv A outer s H vs Q E hr h => ?_)
  · obtain ⟨a, xs, rfl, _⟩ := h
    rfl
  · obtain ⟨a, xs, rfl, h, q⟩ := h
    refine ⟨_, pss_one (ps_ret (pe_callB call_isiT (by rfl) T.isi (by decide +kernel) (pa_cons (pv 0) (pa_cons (pe_tup (pa_cons (pe_bltn (v := .ty "list") (by rfl) R.list (by decide +kernel) rfl) (pa_cons (pe_bltn (v := .ty "tuple") (by rfl) R.tuple (by decide +kernel) rfl) pa_nil))) pa_nil)))), ?_⟩
    refine ⟨_, rfl, by show 2 ≤ sizeLine; decide, fun tp hp => ?_⟩
    have e := Ex.new (H := H) (o := .tup [.ty "list", .ty "tuple"]) hp
    refine ⟨.ref a, tp, [.ty "list", .ty "tuple"], ?_⟩
    rcases SqA.keep e h with h | h
    · exact ⟨.type "list", [.type "list", .type "tuple"], true, rfl, upd_same, .cons (.ty _) (.cons (.ty _) .nil), SqL.typ h, kitAny_cons (b := true) (kit_ty (by decide +kernel)) (fun z => nomatch z) (fun _ => rfl), q _ e⟩
    · exact ⟨.type "tuple", [.type "list", .type "tuple"], true, rfl, upd_same, .cons (.ty _) (.cons (.ty _) .nil), SqT.typ h, kitAny_cons (b := false) (r := true) (kit_ty (by decide +kernel)) (fun _ => kitAny_cons (b := true) (kit_ty (by decide +kernel)) (fun z => nomatch z) (fun _ => rfl)) (fun z => nomatch z), q _ e⟩
/-- is_pair of a pair of names -/
def spPair (K : PySem.W.Frag) : Sp := fun vs H Q _ => ∃ (p : Addr) (a x : Str), vs = [.ref p] ∧ H p = some (.tup [.str a, .str x]) ∧ NameV (.str a) ∧ NameV (.str x) ∧ Q (.bl true) H
theorem ok_pair (F : Fun K "is_pair" "is_pair" sPair f fd) (T : Blt mg) (R : BltR mg) (G : FnOk P w K mg base CX0 1 fN fdN ["value"] (spName K)) (b : Binds K fdN ["value"] []) (gN : mg "is_name" = some (.ref fN)) (kN : PySem.W.keepIn K (.ref fN) = true) :
    FnOk P w K mg base CX0 2 f fd ["value"] (spPair K) := by
  refine F.ok scPair (fun vs H Q E h => ?_) (fun cdv A outer s H vs Q E hr h => ?_)
  · obtain ⟨p, a, x, rfl, _⟩ := h
    rfl
  · obtain ⟨p, a, x, rfl, h, ⟨y, ey, na, na2⟩, ⟨z, ez, nx, nx2⟩, q⟩ := h
    cases ey
    cases ez
    refine ⟨_, pss_one (ps_ret (pe_and (pe_callB call_isi (by rfl) T.isi (by decide +kernel) (pa_cons (pv 0) (pa_cons (pe_bltn (v := .ty "tuple") (by rfl) R.tuple (by decide +kernel) rfl) pa_nil)))
      (pe_and (pe_cmpR op_eq (pe_callB call_len_seq (by rfl) T.len PySem.boot_len (pa_cons (pv 0) pa_nil)) pe_int (nomark _))
      (pe_and (pe_call G hr (by rfl) gN kN b .nil pass0 (pa_cons (pe_ix ix_tup (pv 0) pe_int (fun _ _ => rfl)) pa_nil))
      (pe_one (pe_call G hr (by rfl) gN kN b .nil pass0 (pa_cons (pe_ix ix_tup (pv 0) pe_int (fun _ _ => rfl)) pa_nil))))))), ?_⟩
    refine ⟨_, rfl, _, _, _, _, true, rfl, .ty _, .base (.tup h), kit_ty (by decide +kernel), _, rfl, ?_⟩
    refine ⟨_, rfl, p, _, rfl, .inr (SqT.of h), ?_⟩
    refine ⟨rfl, _, rfl, ?_⟩
    rw [show decide (V.int (([V.str a, V.str x].length : Nat) : Int) = V.int 2) = true from decide_eq_true rfl, if_pos rfl]
    refine ⟨_, rfl, p, _, _, _, rfl, rfl, SqT.of h, atI_nat (xs := [V.str a, V.str x]) (j := 0) rfl, _, rfl, .inl ⟨a, rfl, na, _, rfl, ?_⟩⟩
    rw [na2, if_pos rfl]
    refine ⟨_, rfl, p, _, _, _, rfl, rfl, SqT.of h, atI_nat (xs := [V.str a, V.str x]) (j := 1) rfl, _, rfl, .inl ⟨x, rfl, nx, ?_⟩⟩
    rw [nx2]
    exact q
end
end Tb

set_option Elab.async false
set_option linter.all false
set_option maxRecDepth 100000
set_option maxHeartbeats 4000000
/-! Statements that only add objects: calls, fields. -/
namespace Fk
open PySem PySem.Spec PyProof.Rows L2 EvP Cm
/-- more built-ins that are still themselves -/
structure Blt2 (mg : Str → Option Value) : Prop where
  sorted : mg "sorted" = none
  tuple : mg "tuple" = none
  sum : mg "sum" = none
section
variable {K : PySem.W.Frag} {te ta : TE} {σ : L2.St} {H : Hp} {P : PR} {sp : Sp} {dvs : List V} {E : XK} {u : TS} {D : Ends} {f : Str}
theorem st_call (h : EvP.Gives te σ H P) (k : ∀ v H1, Ex H H1 → P.R v H1 → sp ([v] ++ dvs) H1 (fun _ H' => u D σ H') E) : tSeq (tDrop (tCall sp dvs E (tCons te tNil))) u D σ H := h H (Ex.refl H) _ k
theorem st_fld {i : Nat} (h : EvP.Gives te σ H P) (k : ∀ v H1, Ex H H1 → P.R v H1 → ∃ a C dx fs, σ[i]? = some (some (.ref a)) ∧ H1 a = some (.ins C dx fs) ∧ Cls K C ∧ NoAttr K C f ∧ fs.length < 1000 ∧ u D σ (upd H1 a (.ins C dx (putF f v fs)))) :
    tSeq (sFld K (tVar i) te f) u D σ H := h H (Ex.refl H) _ fun v H1 e r => by
  obtain ⟨a, C, dx, fs, h1, h2, h3, h4, h5, h6⟩ := k v H1 e r
  exact ⟨_, h1, a, C, dx, fs, rfl, h2, h3, h4, h5, h6⟩
theorem st_fld1 {i : Nat} (h : EvP.Gives te σ H P) (k : ∀ v H1, Ex H H1 → P.R v H1 → ∃ a C dx fs, σ[i]? = some (some (.ref a)) ∧ H1 a = some (.ins C dx fs) ∧ Cls K C ∧ NoAttr K C f ∧ fs.length < 1000 ∧ D.nx σ (upd H1 a (.ins C dx (putF f v fs)))) :
    sFld K (tVar i) te f D σ H := h H (Ex.refl H) _ fun v H1 e r => by
  obtain ⟨a, C, dx, fs, h1, h2, h3, h4, h5, h6⟩ := k v H1 e r
  exact ⟨_, h1, a, C, dx, fs, rfl, h2, h3, h4, h5, h6⟩
theorem g_fld {i : Nat} {a C dx : Addr} {fs : List (Str × V)} {v : V} (hi : σ[i]? = some (some (.ref a))) (ha : H a = some (.ins C dx fs)) (c : Cls K C) (n : NoAttr K C f) (l : fs.lookup f = some v) (hp : P.R v H) : EvP.Gives (tFld K (tVar i) f) σ H P :=
  fun H1 e Q q => ⟨_, hi, a, C, dx, fs, v, rfl, e _ _ ha, c, n, l, q _ _ (Ex.refl H1) (P.mono _ _ _ e hp)⟩
end
theorem Gives.imp {te : TE} {σ : L2.St} {H : Hp} {Q R : PR} (h : EvP.Gives te σ H Q) (k : ∀ v H, Q.R v H → R.R v H) : EvP.Gives te σ H R := fun H1 e q z => h H1 e q fun v H2 e2 hv => z v H2 e2 (k _ _ hv)
theorem tup_is {xs : List V} {v : V} {H : Hp} (h : (tup (xs.map is)).R v H) : (tupV xs).R v H := by
  obtain ⟨a, ws, ev, ha, hs⟩ := h
  exact ⟨a, ev, by rw [← all2_is hs]; exact ha⟩
end Fk

set_option Elab.async false
set_option linter.all false
set_option maxRecDepth 100000
set_option maxHeartbeats 4000000
/-! list(d.values()). -/
namespace Cm
open PySem PySem.Spec PyProof.Rows L2 EvP
theorem kv_vals : ∀ {kvs : List (Key × V)} {vs : List (Key × Value)}, KV kvs vs → Vals (kvs.map (·.2)) (vs.map (·.2))
  | [], [], _ => .nil
  | _ :: _, _ :: _, .cons a t => .cons a.2 (kv_vals t)
def tListVals (td : TE) : TE := fun σ H Q => td σ H fun x H1 => ∃ (a : Addr) (kvs : List (Key × V)), x = .ref a ∧ H1 a = some (.dK kvs) ∧ ∀ p, H1 p = none → Q (.ref p) (upd H1 p (.lst (kvs.map (·.2))))
theorem pe_listVals {X : Cx} {o : Expr} {td : TE} {p pos apos mpos : Pos} (hc : X.calm = true) (hg : Gl X "list") (hm : X.mg "list" = none) (hd : PE X o td) (hbase : attributeBase o "values" X.env (eval o X.env) = eval o X.env := by rfl) (hline : (apos.endLine == mpos.line) = true := by rfl)
    (hse : starEach [Expr.Call (.Attribute o "values" apos) [] [] mpos] X.env = [(false, eval (Expr.Call (.Attribute o "values" apos) [] [] mpos) X.env)] := by rfl) :
    PE X (.Call (.Name "list" p) [.Call (.Attribute o "values" apos) [] [] mpos] [] pos) (tListVals td) := by
  refine ⟨fun pins s σ H Q I h => ?_⟩
  refine wpAny_Call_Name_kw (ld_blt I hg hm (u := .type "list") (by decide +kernel) ?_ (by decide +kernel) (by decide +kernel))
  rw [hse]
  refine PySem.callWith_type1 (wpAny_Call_method0_late hbase hline (thn (hd.run pins s σ H _ I h) fun v s1 ⟨x, H1, I1, r1, a, kvs, ev, ha, q⟩ => ?_))
  subst ev
  obtain rfl : v = Value.ref a := r1
  obtain ⟨z, sy, vs, rel, dof⟩ := dk_of I1.hok ha
  obtain ⟨ep, dat⟩ := dof.dictAt
  have d2 := dat
  obtain ⟨ob, es, ho, ex, _⟩ := d2
  refine ⟨"dict", "dict.values", F.plainAttrs_dict, F.slot_dict_values, F.type_dict_values, ⟨ob, ho, ex.1⟩, fun b e => ?_, Calls.callWith_builtin rfl (PySem.evalArgs_none ?_)⟩
  · cases e
    exact ⟨ob, ho, ex.2.1⟩
  refine call_meetsIn F.slot_dict_values ⟨ob, ho, ex.1⟩ F.entry_dict_values (F.args_dict_values_1 _) (meets_dict_values (mixKind X.prog X.w) a sy) ⟨⟨vs, dof⟩, ?_⟩
  have k1 : ∀ b u, s1.heap.get? b = some u → (s1.heap.push { cls := .type "dict_values", data := .fields #[.ref a] }).get? b = some u := fun b u e => Heap.get?_push_of_some _ e
  have sz : (s1.heap.push { cls := .type "dict_values", data := .fields #[.ref a] }).objs.size = s1.heap.objs.size + 1 := Heap.size_push _ _
  refine PySem.W.kdl_call (PySem.W.kdl_values (knd := mixKind X.prog X.w) (r := s1.heap.objs.size) (d := a) (kvs := vs) (ep := ep)) (I.ok.hd hc) ⟨⟨_, Heap.get?_push_size _ rfl, rfl, rfl⟩, dat.keep k1⟩ (by rw [← rel.length]; exact z) fun h2 tk acc c2 hk hD hacc => ?_
  have hl : acc.toList = vs.map (·.2) := by
    refine List.ext_getElem? fun j => ?_
    rw [List.getElem?_map, Array.getElem?_toList]
    cases hj : acc[j]? with
    | some v =>
      obtain ⟨k, hk2⟩ := hacc.2 j v hj
      rw [hk2]
      rfl
    | none =>
      have : vs.length ≤ j := by
        rw [← hacc.1]
        exact Array.getElem?_eq_none_iff.mp hj
      rw [List.getElem?_eq_none_iff.mpr this]
      rfl
  have new : ObjOk X.prog X.w (upd H1 (s1.heap.objs.size + 1) (.lst (kvs.map (·.2)))) h2 (s1.heap.objs.size + 1) (.lst (kvs.map (·.2))) :=
    ⟨by rw [List.length_map]; exact z, acc.toList, c2, by rw [hl]; exact kv_vals rel, by rw [Array.toArray_toList, ← sz]; exact hD⟩
  have nn : H1 (s1.heap.objs.size + 1) = none := I1.hok.fresh (Nat.le_succ _)
  refine ⟨.ref (s1.heap.objs.size + 1), upd H1 (s1.heap.objs.size + 1) (.lst (kvs.map (·.2))), I1.laid (t' := tk) (fun b u e => hk b u (k1 b u e)) (Nat.le_succ _) new, ?_, q _ nn⟩
  show Value.ref _ = Value.ref _
  rw [sz]
end Cm

set_option Elab.async false
set_option linter.all false
set_option maxRecDepth 100000
set_option maxHeartbeats 2000000
/-! check_table. -/
namespace Tb
open PySem PySem.Spec PyProof.Rows L2 EvP Cm Fk DtE
abbrev sCheck : Stmt := top 29
abbrev NC : List Str := ["rows", "uses", "row"]
theorem scCheck : FnScope NC ["rows", "uses"] (defScope sCheck) := ⟨rfl, rfl, rfl, by decide +kernel, rfl, by decide +kernel, by decide +kernel⟩
/-- the dict of rows, as an object -/
abbrev rowsO (T : Tab) : HO := .dK (T.map fun t => (Sum.inr t.1, V.ref t.2.1))
/-- a dict of rows that Table takes -/
structure TabOk (T : Tab) : Prop where
  nod : (T.map (·.1)).Nodup
  nodA : (T.map (·.2.1)).Nodup
  nm : ∀ t ∈ T, NameV (.str t.1)
  row : ∀ t ∈ T, (t.2.2.map (·.1)).Nodup ∧ (∀ e ∈ t.2.2, NameV (.str e.1) ∧ 0 ≤ e.2) ∧ t.2.2.length ≤ 31
  few : T.length ≤ 31
def locks (d : Addr) (T : Tab) : List (Addr × HO) := (d, rowsO T) :: T.map fun t => (t.2.1, .dK (ents t.2.2))
theorem froz1 {d : Addr} {T : Tab} {H Hf : Hp} (h : TabAt H d T) (f : Froz [(d, rowsO T)] H Hf) : (∃ od, Hf d = some (.frz od (rowsO T))) ∧ ∀ t ∈ T, Hf t.2.1 = some (.dK (ents t.2.2)) := by
  refine ⟨f.at_ _ (.head _), fun t ht => ?_⟩
  have ne : t.2.1 ≠ d := fun z => by
    have a := h.row t ht
    rw [z, h.at_] at a
    have b := HO.dK.inj (Option.some.inj a)
    cases c : t.2.2 with
    | nil =>
      rw [c] at b
      have : T = [] := List.map_eq_nil_iff.mp b
      rw [this] at ht
      cases ht
    | cons e r =>
      rw [c] at b
      cases T with
      | nil => cases ht
      | cons t0 T0 =>
        have := (List.cons.inj b).1
        have := (Prod.mk.inj this).2
        cases this
  rw [f.old _ (by simpa using ne)]
  exact h.row t ht
section
variable {K : PySem.W.Frag} {σ : L2.St} {H : Hp} {t : TE} {ds : List (Addr × HO)} {xs : List V}
theorem g_lockL (nd : (ds.map (·.1)).Nodup) (at_ : ∀ p ∈ ds, H p.1 = some p.2 ∧ Mut (some p.2)) (h : ∀ H1, Ex H H1 → ∀ Hf, Froz ds H1 Hf → EvP.Gives t σ Hf (lstV xs)) : EvP.Gives (tLockL t) σ H (lstV xs) :=
  g_lock nd at_ h fun v H1 Hf H' H2 _ fr e th ⟨a, ev, ha⟩ => ⟨a, ev, th.new fr e ha fun _ _ z => nomatch z⟩
theorem g_allT {n : Nat} {te : TE} (h : EvP.Gives te σ H (lstV (List.replicate n (.bl true)))) : EvP.Gives (tCB (rAll K) (tCons te tNil)) σ H (is (.bl true)) := fun H1 e Q q =>
  h H1 e _ fun v H2 e2 ⟨a, ev, ha⟩ => by
    subst ev
    refine ⟨a, List.replicate n true, rfl, SqL.of (by rw [List.map_replicate]; exact ha), ?_⟩
    rw [show (List.replicate n true).all id = true by rw [List.all_eq_true]; intro b hb; exact (List.mem_replicate.mp hb).2]
    exact q _ _ e2 rfl
theorem TabAt.ex {H1 : Hp} {d : Addr} {T : Tab} (e : Ex H H1) (h : TabAt H d T) : TabAt H1 d T := ⟨e _ _ h.at_, fun t ht => e _ _ (h.row t ht)⟩
/-- all([isinstance(row, dict) for row in rows.values()]) -/
theorem g_dicts {d u : Addr} {T : Tab} (h : TabAt H d T) (few : T.length ≤ 31) : EvP.Gives (tCB (rAll K) (tCons (tLockL (tLc (iVals (tVar 0)) (gName 2) tYes (tCB (rIsi K) (tCons (tVar 2) (tCons (tC (.ty "dict")) tNil))) [2])) tNil)) [some (.ref d), some (.ref u), none] H (is (.bl true)) := by
  refine g_allT (n := T.length) (g_lockL (ds := [(d, rowsO T)]) (by simp) (fun p hp => ?_) fun H1 e1 Hf fr => ?_)
  · rw [List.mem_singleton.mp hp]
    exact ⟨h.at_, True.intro⟩
  · obtain ⟨⟨od, f1⟩, f2⟩ := froz1 (h.ex e1) fr
    have w := comp_is (i := 2) (vs := [2]) (te := tCB (rIsi K) (tCons (tVar 2) (tCons (tC (.ty "dict")) tNil))) (tt := tYes) (σ := [some (.ref d), some (.ref u), none]) (H := Hf) (fun _ => true) (fun _ => V.bl true) (walks_vals (m := 0) rfl f1)
      (by rw [List.length_map, List.length_map]; omega) (fun _ => rfl) (fun _ _ H2 _ Q h => h) (fun y hy _ => fun H2 e2 Q q => ?_)
    · rw [List.filter_eq_self.mpr (fun _ _ => rfl), List.map_map, List.map_map, show ((fun _ => V.bl true) ∘ (fun x : Key × V => x.2)) ∘ (fun t : Str × Addr × Fk.Row => ((Sum.inr t.1 : Key), V.ref t.2.1)) = fun _ => V.bl true from rfl, List.map_const'] at w
      exact w
    · rw [List.map_map] at hy
      obtain ⟨t, ht, rfl⟩ := List.mem_map.mp hy
      exact ⟨_, rfl, _, _, _, _, true, rfl, .ty _, .base (.dK (e2 _ _ (f2 t ht))), kit_ty (by decide +kernel), q _ _ (Ex.refl _) rfl⟩
/-- for row in rows.values(): .. -/
theorem st_forV1 {m i : Nat} {d : Addr} {T : Tab} {tb : TS} {D : Ends} (hd : σ[m]? = some (some (.ref d))) (h : TabAt H d T) (h0 : ∃ z, σ = σ.set i z)
    (turn : ∀ t ∈ T, ∀ H1, H1 t.2.1 = some (.dK (ents t.2.2)) → ∀ D' : Ends, (∀ H2, Ex H1 H2 → D'.nx (σ.set i (some (.ref t.2.1))) H2) → tb D' (σ.set i (some (.ref t.2.1))) H1) (k : ∀ y H1, Ex H H1 → D.nx (σ.set i y) H1) :
    tLock (tFor (iVals (tVar m)) (gName i) tb) D σ H := by
  refine ⟨d, rowsO T, h.at_, True.intro, fun od => ?_⟩
  obtain ⟨_, rows⟩ := froz1 h (Hf := upd H d (.frz od (rowsO T))) ⟨fun b hb => by rw [upd_ne (by simpa using hb)], fun p hp => by rw [List.mem_singleton.mp hp]; exact ⟨od, upd_same⟩⟩
  have hf : upd H d (.frz od (rowsO T)) d = some (.frz od (rowsO T)) := upd_same
  have back : ∀ H', Ex (upd H d (.frz od (rowsO T))) H' → Ex H (upd H' d (rowsO T)) := fun H' e b o hb => by
    by_cases c : b = d
    · rw [c, upd_same, ← h.at_, ← c]
      exact hb
    · rw [upd_ne c]
      exact e _ _ (by rw [upd_ne c]; exact hb)
  generalize upd H d (.frz od (rowsO T)) = Hf at rows hf back ⊢
  refine ⟨_, hd, d, od, _, rfl, hf, for_it walk_values (fun n o H' => Ex Hf H' ∧ ∃ y, o = σ.set i y) ⟨Ex.refl Hf, h0⟩ (fun n o H' _ q => q.1 _ _ hf) (fun n x o H' H2 hn q y => ?_) (fun o H' q => ?_)⟩
  · obtain ⟨e, z, rfl⟩ := q
    obtain ⟨rfl, ky, hk⟩ := y
    rw [List.getElem?_map] at hk
    obtain ⟨t, ht, et⟩ := Option.map_eq_some_iff.mp hk
    have et2 := (Prod.mk.inj et).2
    subst et2
    show tb _ ((σ.set i z).set i (some (.ref t.2.1))) H2
    rw [List.set_set]
    exact turn t (List.mem_of_getElem? ht) H2 (e _ _ (rows t (List.mem_of_getElem? ht))) _ fun H3 e3 => ⟨e.trans e3, _, rfl⟩
  · obtain ⟨e, z, rfl⟩ := q
    exact ⟨e _ _ hf, k z _ (back _ e)⟩
theorem st_forV {m i : Nat} {d : Addr} {T : Tab} {tb u : TS} {D : Ends} (hd : σ[m]? = some (some (.ref d))) (h : TabAt H d T) (h0 : ∃ z, σ = σ.set i z)
    (turn : ∀ t ∈ T, ∀ H1, H1 t.2.1 = some (.dK (ents t.2.2)) → ∀ D' : Ends, (∀ H2, Ex H1 H2 → D'.nx (σ.set i (some (.ref t.2.1))) H2) → tb D' (σ.set i (some (.ref t.2.1))) H1) (k : ∀ y H1, Ex H H1 → u D (σ.set i y) H1) :
    tSeq (tLock (tFor (iVals (tVar m)) (gName i) tb)) u D σ H := st_forV1 hd h h0 turn k
end
section
variable {P : Program} {w : World} {K : PySem.W.Frag} {mg : Str → Option Value} {base : Heap} {f fR fN fW : Addr} {fd fdR fdN fdW : FuncData}
def spCheck (K : PySem.W.Frag) : Sp := fun vs H Q _ => ∃ (d u : Addr) (T : Tab) (us : List Str), vs = [.ref d, .ref u] ∧ TabAt H d T ∧ TabOk T ∧ SqA K H u (us.map V.str) ∧ (∀ n ∈ us, NameV (.str n)) ∧ ∀ H', Ex H H' → Q .non H'
theorem ok_check (F : Fun K "check_table" "check_table" sCheck f fd) (T : Blt mg) (R : BltR mg) (hD : mg "dict" = none) (hA : mg "all" = none)
    (GR : FnOk P w K mg base CX0 1 fR fdR ["value"] (spRow K)) (bR : Binds K fdR ["value"] []) (gR : mg "is_row" = some (.ref fR)) (kR : PySem.W.keepIn K (.ref fR) = true)
    (GN : FnOk P w K mg base CX0 2 fN fdN ["values"] (spSeq K NameV)) (bN : Binds K fdN ["values"] []) (gN : mg "check_names" = some (.ref fN)) (kN : PySem.W.keepIn K (.ref fN) = true)
    (GW : FnOk P w K mg base CX0 3 fW fdW ["values"] (spAll K AmtV)) (bW : Binds K fdW ["values"] []) (gW : mg "check_worths" = some (.ref fW)) (kW : PySem.W.keepIn K (.ref fW) = true) :
    FnOk P w K mg base CX0 4 f fd ["rows", "uses"] (spCheck K) := by
  have nd := scCheck.nd
  refine F.ok scCheck (fun vs H Q E h => ?_) (fun cdv A outer s H vs Q E hr h => ?_)
  · obtain ⟨d, u, T, us, rfl, _⟩ := h
    rfl
  · obtain ⟨d, u, Tb, us, rfl, hT, ok, hU, nU, q⟩ := h
    refine ⟨_, pss_cons (ps_if (PW.pt (pw_or (pt_not (pt_val (pe_callB call_isi (by rfl) T.isi (by decide +kernel) (pa_cons (pv 0) (pa_cons (pe_bltn (v := .ty "dict") (by rfl) hD (by decide +kernel) rfl) pa_nil)))))
        (pw_or1 (pt_not (pt_val (pe_callB (cr_all rfl) (by rfl) hA (by decide +kernel) (pa_cons (pe_lockL (pe_lc (own := [("row", 2)]) (g := gName 2) (tt := tYes) (te := tCB (rIsi K) (tCons (tVar 2) (tCons (tC (.ty "dict")) tNil))) rfl nd (pi_values (pv 0)) (blkOk_by (N := NC) (sc := defScope sCheck) (by decide +kernel))
          (fun _ _ _ _ _ => pg_name (i := 2) nd rfl (Or.inl rfl)) (fun _ _ _ _ _ => pts_nil) (fun _ _ _ _ _ => pe_callB call_isi (by rfl) T.isi (by decide +kernel) (pa_cons (pv 2) (pa_cons (pe_bltn (v := .ty "dict") (by rfl) hD (by decide +kernel) rfl) pa_nil))))) pa_nil))))))) (pss_one ps_dead) pss_nil)
      (pss_cons (ps_if (pt_not (pt_val (pe_call GR (hr.mono (by decide)) (by rfl) gR kR bR .nil pass0 (pa_cons (pv 1) pa_nil)))) (pss_one ps_dead) pss_nil)
      (pss_cons (ps_expr (pe_call GN (hr.mono (by decide)) (by rfl) gN kN bN .nil pass0 (pa_cons (pe_callTy (T := "list") (call_listD rfl) (by rfl) R.list (by decide +kernel) (pa_cons (pv 0) pa_nil)) pa_nil)))
      (pss_cons (ps_lock (ps_for PassesOwn.never rfl (pi_values (pv 0)) (pg_name (i := 2) nd rfl (Or.inl rfl))
        (pss_one (ps_expr (pe_call GN (hr.mono (by decide)) (by rfl) gN kN bN .nil pass0 (pa_cons (pe_callTy (T := "list") (call_listD rfl) (by rfl) R.list (by decide +kernel) (pa_cons (pv 2) pa_nil)) pa_nil))))))
      (pss_cons (ps_expr (pe_call GN (hr.mono (by decide)) (by rfl) gN kN bN .nil pass0 (pa_cons (pv 1) pa_nil)))
      (pss_one (ps_lock (ps_for PassesOwn.never rfl (pi_values (pv 0)) (pg_name (i := 2) nd rfl (Or.inl rfl))
        (pss_one (ps_expr (pe_call GW hr (by rfl) gW kW bW .nil pass0 (pa_cons (pe_listVals rfl (by rfl) R.list (pv 2)) pa_nil))))))))))), ?_⟩
    refine ⟨_, rfl, _, _, _, _, true, rfl, .ty _, .base (.dK hT.at_), kit_ty (by decide +kernel), _, rfl, ?_⟩
    refine g_dicts hT ok.few H (Ex.refl H) _ fun v H1 e1 ev => ?_
    cases (show v = .bl true from ev)
    refine ⟨_, rfl, ?_⟩
    dsimp only [Bool.not_true, tNext]
    rw [if_neg (show ¬ (!true) = true by decide)]
    refine ⟨_, rfl, u, _, rfl, SqA.keep e1 hU, fun H2 e2 => ⟨_, rfl, ?_⟩⟩
    dsimp only [Bool.not_true, tNext]
    rw [if_neg (show ¬ (!true) = true by decide)]
    have e12 := e1.trans e2
    refine ⟨_, rfl, d, _, rfl, .inl (e12 _ _ hT.at_), fun p1 h1 => ⟨p1, _, rfl, .inl (SqL.of upd_same), fun y hy => ?_, ?_⟩⟩
    · rw [List.map_map] at hy
      obtain ⟨t, ht, rfl⟩ := List.mem_map.mp hy
      exact ok.nm t ht
    have e3 := e12.trans (Ex.new (o := .lst ((Tb.map fun t => ((Sum.inr t.1 : Key), V.ref t.2.1)).map fun kv => kV kv.1)) h1)
    generalize upd H2 p1 (.lst ((Tb.map fun t => ((Sum.inr t.1 : Key), V.ref t.2.1)).map fun kv => kV kv.1)) = H3 at e3 ⊢
    refine st_forV (σ := [some (.ref d), some (.ref u), none]) (m := 0) (i := 2) rfl (hT.ex e3) ⟨none, rfl⟩ (fun t ht H4 h4 D' k => ?_) fun y H5 e5 => ?_
    · refine ⟨_, rfl, t.2.1, _, rfl, .inl h4, fun p2 h2 => ⟨p2, _, rfl, .inl (SqL.of upd_same), fun y hy => ?_, k _ (Ex.new h2)⟩⟩
      unfold ents at hy
      rw [List.map_map] at hy
      obtain ⟨e, he, rfl⟩ := List.mem_map.mp hy
      exact ((ok.row t ht).2.1 e he).1
    have e6 := e3.trans e5
    refine ⟨_, rfl, u, _, rfl, SqA.keep e6 hU, fun y hy => ?_, ?_⟩
    · obtain ⟨n, hn, rfl⟩ := List.mem_map.mp hy
      exact nU n hn
    refine st_forV1 (σ := [some (.ref d), some (.ref u), y]) (m := 0) (i := 2) rfl (hT.ex e6) ⟨y, rfl⟩ (fun t ht H4 h4 D' k => ?_) fun z H7 e7 => q H7 (e6.trans e7)
    refine ⟨_, rfl, t.2.1, ents t.2.2, rfl, h4, fun p2 h2 => ⟨p2, _, rfl, SqL.of upd_same, fun y hy => ?_, k _ (Ex.new h2)⟩⟩
    unfold ents at hy
    rw [List.map_map] at hy
    obtain ⟨e, he, rfl⟩ := List.mem_map.mp hy
    exact ⟨e.2, rfl, ((ok.row t ht).2.1 e he).2⟩
end
end Tb

set_option Elab.async false
set_option linter.all false
set_option maxRecDepth 100000
set_option maxHeartbeats 1000000
/-! sorted(xs, key=f), f giving texts: over the heap alone, then as a rule of the hand layer with f = str. -/
namespace KyS
open PySem PySem.W PySem.Calls PyProof.Rows
/-- h' has all of h's objects but the one at a -/
def But (a : Addr) (h h' : Heap) : Prop := ∀ b o, b ≠ a → h.get? b = some o → h'.get? b = some o
theorem But.kept {a : Addr} {h h' h2 : Heap} (k : But a h h') (g : ∀ b o, h'.get? b = some o → h2.get? b = some o) : But a h h2 := fun b o n e => g _ _ (k b o n e)
def Strs (vs : List Value) (ks : List Str) : Prop := EachIs (fun v k => ∃ t, v = Value.str k t) vs ks
theorem Strs.reads {h : Heap} : ∀ {vs : List Value} {ks : List Str}, Strs vs ks → EachIs (fun v d => ∃ as, Reads h v d as) vs (ks.map PyData.str)
  | _, _, .nil => .nil
  | _, _, .cons ⟨t, e⟩ r => .cons ⟨[], by rw [e]; exact .str _ _⟩ (Strs.reads r)
theorem alikeT (ks : List Str) : AllAlike (ks.map PyData.str) := AllAlike.of fun b b' => by simp [alike]
theorem sortableT (ks : List Str) : Sortable (ks.map PyData.str) := Sortable.others fun b => ⟨nofun, fun xs => nofun⟩
/-- what is left: the values that stand for bs, by their keys -/
def Out (kz : List Str) (vs out : List Value) : Prop := ∃ (h : Heap) (ks : List Value), Strs ks kz ∧ out = sortVals (dataKind h (kz.map PyData.str)) false ks vs
theorem Out.each {β : Type} {R : Value → β → Prop} {bs : List β} {vs out : List Value} (k : β → Str) (h : Out (bs.map k) vs out) (hR : EachIs R vs bs) : EachIs R out (bs.mergeSort (dataLe false fun b => PyData.str (k b))) := by
  obtain ⟨hp, ks, hs, rfl⟩ := h
  have e1 : EachIs (fun v d => ∃ as, Reads hp v d as) ks ((bs.map k).map PyData.str) := hs.reads
  have e2 := each_keys (alikeT (bs.map k)) e1
  have e3 : (bs.map k).map PyData.str = bs.map fun b => PyData.str (k b) := by rw [List.map_map]; rfl
  have e4 : ∀ l, l = (bs.map k).map PyData.str → EachIs (fun v d => (dataKind hp ((bs.map k).map PyData.str)).keyOf v = some (keyToks d)) ks l := fun l q => q ▸ e2
  exact sortVals_each (κ := dataKind hp ((bs.map k).map PyData.str)) (fun b => keyToks (PyData.str (k b))) hR (each_of_map (fun b => PyData.str (k b)) (e4 _ e3.symm))
theorem Out.length {kz : List Str} {vs out : List Value} (h : Out kz vs out) (hl : kz.length = vs.length) : out.length = vs.length := by
  obtain ⟨hp, ks, hs, rfl⟩ := h
  exact sortVals_length false (hs.length.trans hl)
section
variable {prog : Program} {w : World} {A : Around} {E : Value → Shared → Prop} {s : Shared} {a kS : Addr} {vs : List Value} {keys : Array Value} {kz : List Str} {h0 : Heap} {e e1 : Nat} {P : PySem.Fin → Shared → Prop}
theorem tail_at {st : SortSt} {out : List Value} (kA : s.heap.get? a = some (seqObj "list" #[] e1)) (kK : s.heap.get? kS = some (seqObj "list" keys e)) (ne : kS ≠ a) (hz : keys.size ≤ sizeLine) (ho : out.length ≤ sizeLine) (hf : failedOf st = none)
    (eo : (arrOf st).map (·.2) = out.toArray) (h : ∀ h' c, (∀ b o, b ≠ a → b ≠ kS → s.heap.get? b = some o → h'.get? b = some o) → h'.get? a = some (seqObj "list" out.toArray c) → P (.done (.ret .none)) { s with heap := h' }) :
    wpAny (model prog w) A (ksk_tail a false e1 (.ref kS) st) P E s := by
  obtain ⟨c1, g1⟩ : ∃ c1, (s.heap.update kS (Obj.mapSeq fun _ => (#[] : Array Value))).get? kS = some (seqObj "list" #[] c1) := ⟨_, get?_update_seq kK fun _ => #[]⟩
  have g2 : (s.heap.update kS (Obj.mapSeq fun _ => (#[] : Array Value))).get? a = some (seqObj "list" #[] e1) := by rw [Heap.get?_update_ne _ _ _ _ (Ne.symm ne)]; exact kA
  obtain ⟨c2, g3⟩ : ∃ c2, ((s.heap.update kS (Obj.mapSeq fun _ => (#[] : Array Value))).update a (Obj.mapSeq fun _ => out.toArray)).get? a = some (seqObj "list" out.toArray c2) := ⟨_, get?_update_seq g2 fun _ => out.toArray⟩
  unfold ksk_tail
  dsimp only
  simp only [Bool.false_eq_true, if_false, eo]
  refine wpAny_bind (listUpdate_at kK rfl (wpAny_bind (wpAny_letGo (wpAny_bind (seqEpoch_at g2 rfl (wpAny_bind (listUpdate_at g2 rfl ?_ (Nat.zero_le _) (by rw [List.size_toArray]; omega))))))) hz (Nat.zero_le _))
  rw [hf]
  simp only [bne_self_eq_false, Bool.false_eq_true, if_false]
  exact wpAny_pure (h _ c2 (fun b o n1 n2 q => by rw [Heap.get?_update_ne _ _ _ _ n1, Heap.get?_update_ne _ _ _ _ n2]; exact q) g3)
theorem end_at (kA : s.heap.get? a = some (seqObj "list" #[] e1)) (kK : s.heap.get? kS = some (seqObj "list" keys e)) (ne : kS ≠ a) (hk : Strs keys.toList kz) (hl : kz.length = vs.length) (hz : vs.length ≤ sizeLine) (hu : A.units + 2 < cLine)
    (h : ∀ h' c out, (∀ b o, b ≠ a → b ≠ kS → s.heap.get? b = some o → h'.get? b = some o) → h'.get? a = some (seqObj "list" (List.toArray out) c) → Out kz vs out → P (.done (.ret .none)) { s with heap := h' }) :
    wpAny (model prog w) A (ksk_end a false vs.toArray e1 (.ref kS) keys) P E s := by
  have kl : keys.toList.length = vs.length := hk.length.trans hl
  have ks' : keys.size = vs.length := by rw [← Array.length_toList]; exact kl
  have S : SortsAt prog w A s (dataKind s.heap (kz.map PyData.str)) keys.toList := SortsAt.data hk.reads (alikeT kz) (sortableT kz) fun d hd => by
    obtain ⟨k, _, rfl⟩ := List.mem_map.mp hd
    show A.units + 0 < cLine
    omega
  obtain ⟨kd, L1, L2⟩ := S.kind
  have KO : PyProof.Rows.KeysOf (dataKind s.heap (kz.map PyData.str)) (keys.zip vs.toArray) := keysOf_zip S.keys
  have O : Out kz vs (sortVals (dataKind s.heap (kz.map PyData.str)) false keys.toList vs) := ⟨s.heap, keys.toList, hk, rfl⟩
  have fin : ∀ st : SortSt, (arrOf st).Perm (keys.zip vs.toArray) → SortedToK (dataKind s.heap (kz.map PyData.str)) (arrOf st) (keys.zip vs.toArray).size → Stable (dataKind s.heap (kz.map PyData.str)) (arrOf st) (keys.zip vs.toArray) → failedOf st = none →
      wpAny (model prog w) A (ksk_tail a false e1 (.ref kS) st) P E s := fun st p1 p2 p3 p4 => by
    have z := sort_out (rev := false) (keys := keys) (items := vs.toArray) (xs := arrOf st) KO p1 p2 p3
    have z2 : (arrOf st).map (·.2) = (sortVals (dataKind s.heap (kz.map PyData.str)) false keys.toList vs).toArray := by
      have y := congrArg List.toArray z
      rw [Array.toArray_toList] at y
      exact y
    exact tail_at kA kK ne (by omega) (by rw [O.length hl]; exact hz) p4 z2 fun h' c q1 q2 => h h' c _ q1 q2 O
  have zs : (keys.zip vs.toArray).size = vs.length := by rw [Array.size_zip, ks', List.size_toArray, Nat.min_self]
  unfold ksk_end
  dsimp only
  simp only [Bool.false_eq_true, if_false]
  by_cases c : vs.toArray.size < 2
  · rw [if_pos c, if_pos c]
    refine wpAny_bind (wpAny_pure ?_)
    rw [StateT.run_pure]
    refine wpAny_bind (wpAny_pure ?_)
    refine fin (SortSt.mk' general' (keys.zip vs.toArray) #[] 7 none) (Array.Perm.refl _) (fun i j i1 i2 => ?_) (Stable.refl _) rfl
    rw [List.size_toArray] at c
    rw [zs] at i2
    have : i = j := by omega
    subst this
    exact KeyOrd.kle_refl _
  · rw [if_neg c, if_neg c]
    rw [List.size_toArray] at c
    have L3 : ∀ {Q : SortKind → Shared → Prop}, Q kd s → wpAny (model prog w) A (keyKind' keys) Q E s := fun {Q} q => by
      have z := L2 (by omega) E (Q := Q) q
      rw [Array.toArray_toList] at z
      exact z
    refine wpAny_bind (L3 ?_)
    refine wpAny_bind (wpAny_mono (H.wpS_sortRunsSt (st := SortSt.mk' kd (keys.zip vs.toArray) #[] 7 none) (Q := fun _ st => failedOf st = none ∧ (arrOf st).Perm (keys.zip vs.toArray) ∧ SortedToK (dataKind s.heap (kz.map PyData.str)) (arrOf st) (keys.zip vs.toArray).size ∧ Stable (dataKind s.heap (kz.map PyData.str)) (arrOf st) (keys.zip vs.toArray))
      L1 KO ⟨Array.Perm.refl _, rfl, rfl⟩ rfl (Stable.refl _) (by omega) fun st p1 p2 p3 p4 => ⟨p2, p1, p3, p4⟩) ?_ fun _ _ z => z)
    rintro ⟨⟨⟩, st⟩ s' ⟨rfl, p1, p2, p3, p4⟩
    exact fin st p2 p3 p4 p1
end
end KyS

set_option Elab.async false
set_option linter.all false
set_option maxRecDepth 100000
set_option maxHeartbeats 1000000
namespace KyS
open PySem PySem.W PySem.Calls PyProof.Rows
theorem Strs.snoc {k : Str} {t : Tok} : ∀ {vs : List Value} {ks : List Str}, Strs vs ks → Strs (vs ++ [.str k t]) (ks ++ [k])
  | _, _, .nil => .cons ⟨t, rfl⟩ .nil
  | _, _, .cons h r => .cons h (Strs.snoc r)
/-- what f gives of an item -/
def Turns (prog : Program) (w : World) (A : Around) (s : Shared) (a : Addr) (f : Value) (vs : List Value) (kz : List Str) : Prop :=
  ∀ (i : Nat) (v : Value) (k : Str), vs[i]? = some v → kz[i]? = some k → ∀ (h : Heap) (tk : Nat), But a s.heap h →
    wpAny (model prog w) A (call f [v]) (fun r s2 => ∃ t h' tk', r = .str k t ∧ s2 = { s with heap := h', toks := tk' } ∧ ∀ b o, h.get? b = some o → h'.get? b = some o) (fun _ _ => False) { s with heap := h, toks := tk }
section
variable {prog : Program} {w : World} {A : Around} {E : Value → Shared → Prop} {s s0 : Shared} {a kS : Addr} {vs : List Value} {kz : List Str} {e1 : Nat} {f : Value} {P : PySem.Fin → Shared → Prop}
theorem rest_at (K : ∀ b o, b ≠ a → s0.heap.get? b = some o → b ≠ kS ∧ s.heap.get? b = some o) (es : s = { s0 with heap := s.heap, toks := s.toks }) (kA : s.heap.get? a = some (seqObj "list" #[] e1)) (kK : s.heap.get? kS = some (seqObj "list" #[] 0)) (ne : kS ≠ a) (hl : kz.length = vs.length) (hz : vs.length ≤ sizeLine) (hu : A.units + 2 < cLine) (T : Turns prog w A s0 a f vs kz)
    (h : ∀ h' tk c out, But a s0.heap h' → h'.get? a = some (seqObj "list" (List.toArray out) c) → Out kz vs out → P (.done (.ret .none)) { s0 with heap := h', toks := tk }) :
    wpAny (model prog w) A (ksk_rest a f false vs.toArray e1 (.ref kS)) P E s := by
  rw [es]
  unfold ksk_rest
  refine wpAny_bind (wpAny_rule ?_)
  first
    | rw [List.forIn_toArray]
    | (rw [← Array.forIn_toList]; simp only [List.toList_toArray])
  refine wpAny_bind (ksk_fold (fun i s' => ∃ h' tk kA' e', s' = { s0 with heap := h', toks := tk } ∧ But a s0.heap h' ∧ (∀ b o, b ≠ a → s0.heap.get? b = some o → b ≠ kS) ∧ h'.get? a = some (seqObj "list" #[] e1) ∧ h'.get? kS = some (seqObj "list" kA' e') ∧ Strs kA'.toList (kz.take i)) vs 0 _
    ⟨s.heap, s.toks, #[], 0, rfl, fun b o n q => (K b o n q).2, fun b o n q => (K b o n q).1, kA, kK, by rw [List.take_zero]; exact .nil⟩ ?step ?done)
  case step =>
    rintro j x s' hx ⟨h', tk, kA', e', rfl, k1, k2, k3, k4, k5⟩
    rw [Nat.zero_add] at k5 ⊢
    have hj : j < vs.length := (List.getElem?_eq_some_iff.mp hx).1
    obtain ⟨k, hk⟩ : ∃ k, kz[j]? = some k := ⟨_, List.getElem?_eq_getElem (by omega)⟩
    have z : kA'.size ≤ vs.length := by
      have y := k5.length
      rw [Array.length_toList, List.length_take] at y
      omega
    refine wpAny_bind (wpAny_attempt (wpAny_mono (T j x k hx hk h' tk k1) (fun v s2 hv => ?_) fun _ _ y => y.elim))
    obtain ⟨t, g, tk2, rfl, rfl, kg⟩ := hv
    dsimp only
    have gK := kg _ _ k4
    obtain ⟨c2, gk2⟩ : ∃ c2, (g.update kS (Obj.mapSeq (·.push (.str k t)))).get? kS = some (seqObj "list" (kA'.push (.str k t)) c2) := ⟨_, get?_update_seq gK (·.push (.str k t))⟩
    refine wpAny_bind (listUpdate_at gK rfl (wpAny_pure ⟨rfl, _, _, kA'.push (.str k t), c2, rfl, fun b o n q => ?_, k2, ?_, gk2, ?_⟩) (Nat.le_trans z hz) (by rw [Array.size_push]; omega))
    · rw [Heap.get?_update_ne _ _ _ _ (k2 b o n q)]
      exact kg _ _ (k1 b o n q)
    · rw [Heap.get?_update_ne _ _ _ _ (Ne.symm ne)]
      exact kg _ _ k3
    · have e3 : kz.take (j + 1) = kz.take j ++ [k] := by rw [List.take_add_one, hk]; rfl
      rw [e3, Array.toList_push]
      exact k5.snoc
  case done =>
    rintro s' ⟨h', tk, kA', e', rfl, k1, k2, k3, k4, k5⟩
    rw [Nat.zero_add, ← hl, List.take_length] at k5
    refine wpAny_bind (listItems_at k4 rfl ?_)
    exact end_at (s := { s0 with heap := h', toks := tk }) k3 k4 ne k5 hl hz hu fun h2 c out q1 q2 q3 => h h2 tk c out (fun b o n q => q1 b o n (k2 b o n q) (k1 b o n q)) q2 q3
theorem tree_at {n : Nat} (ho : s.heap.get? a = some (seqObj "list" vs.toArray n)) (hl : kz.length = vs.length) (hz : vs.length ≤ sizeLine) (hu : A.units + 2 < cLine) (T : Turns prog w A s a f vs kz)
    (h : ∀ h' tk c out, But a s.heap h' → h'.get? a = some (seqObj "list" (List.toArray out) c) → Out kz vs out → P (.done (.ret .none)) { s with heap := h', toks := tk }) :
    wpAny (model prog w) A (ksk_tree a f false) P E s := by
  obtain ⟨e1, g1⟩ : ∃ e1, (s.heap.update a (Obj.mapSeq fun _ => (#[] : Array Value))).get? a = some (seqObj "list" #[] e1) := ⟨_, get?_update_seq ho fun _ => #[]⟩
  have sz : ((s.heap.update a (Obj.mapSeq fun _ => (#[] : Array Value))).push (seqObj "tuple" vs.toArray 0)).objs.size = s.heap.objs.size + 1 := by rw [size_push', Heap.size_update]
  have la := Heap.lt_size ho
  unfold ksk_tree
  refine wpAny_bind (listItems_at ho rfl (wpAny_bind (listUpdate_at ho rfl (wpAny_bind (seqEpoch_at g1 rfl (wpAny_bind (wpAny_newTuple (wpAny_bind (wpAny_newList (wpAny_holding ?_) (Nat.zero_le _))) (by show vs.length ≤ _; exact hz))))) (by rw [List.size_toArray]; exact hz) (Nat.zero_le _))))
  refine rest_at (s0 := s) (s := { s with heap := ((s.heap.update a (Obj.mapSeq fun _ => (#[] : Array Value))).push (seqObj "tuple" vs.toArray 0)).push (seqObj "list" #[] 0) }) (fun b o n q => ⟨?_, ?_⟩) rfl (Heap.get?_push_of_some _ (Heap.get?_push_of_some _ g1)) (Heap.get?_push_size _ rfl) ?_ hl hz hu T h
  · rw [sz]
    exact Nat.ne_of_lt (Nat.lt_succ_of_lt (Heap.lt_size q))
  · refine Heap.get?_push_of_some _ (Heap.get?_push_of_some _ ?_)
    rw [Heap.get?_update_ne _ _ _ _ n]
    exact q
  · rw [sz]
    exact Nat.ne_of_gt (Nat.lt_succ_of_lt la)
/-- sorted(xs, key=f) -/
theorem sorted_at {l : Addr} {Q : Value → Shared → Prop} (hL : s.heap.IsList l vs.toArray) (hl : kz.length = vs.length) (hz : vs.length ≤ sizeLine) (hu : A.units + 8 < cLine)
    (ht : ∀ x, Builtin.«list.sort» ⟨[.ref x], [(Str.ofString "key", f)]⟩ = ksk_tree x f false)
    (T : ∀ (h : Heap) (D : Addr), (∀ b o, s.heap.get? b = some o → b ≠ D ∧ h.get? b = some o) → Turns prog w A.in1.in1 { s with heap := h } D f vs kz)
    (h : ∀ h' tk c out, (∀ b o, s.heap.get? b = some o → h'.get? b = some o) → s.heap.objs.size ≤ s.heap.objs.size + 1 → h'.get? (s.heap.objs.size + 1) = some (seqObj "list" (List.toArray out) c) → Out kz vs out → Q (.ref (s.heap.objs.size + 1)) { s with heap := h', toks := tk }) :
    wpAny (model prog w) A (call (.builtin "sorted") [.ref l] [(Str.ofString "key", f)]) Q E s := by
  refine sorted_of_sort hL hz (ksk_s1 _ _) (fun x => ksk_l1 _ _) fun E' => ?_
  rw [ht]
  have nn : ∀ b o, s.heap.get? b = some o → b ≠ s.heap.objs.size + 1 := fun b o q => Nat.ne_of_lt (Nat.lt_succ_of_lt (Heap.lt_size q))
  exact tree_at (s := { s with heap := copyHeap s.heap vs }) (copyHeap_at s.heap vs) hl hz (by show A.units + 1 + 1 + 2 < cLine; omega) (T _ _ fun b o q => ⟨nn b o q, copyHeap_old q⟩)
    fun h' tk c out k1 k2 k3 => ⟨rfl, h h' tk c out (fun b o q => k1 b o (nn b o q) (copyHeap_old q)) (Nat.le_succ _) k2 k3⟩
end
end KyS

set_option Elab.async false
set_option linter.all false
set_option maxRecDepth 100000
set_option maxHeartbeats 1000000
namespace KyS
open PySem PySem.Spec PyProof.Rows L2
/-- str(x) is k -/
inductive KeyV (H : Hp) : V → Str → Prop
  | str (x : Str) : KeyV H (.str x) x
  | tup {a : Addr} {xs : List V} {ds : List PyData} : H a = some (.tup xs) → DqAll a H xs ds → (PyData.tuple ds).showable = true → (PyData.tuple ds).depth ≤ 60 → (PyData.tuple ds).shown.length ≤ 100000 → KeyV H (.ref a) (PyData.tuple ds).shown
/-- xs, sorted by their texts -/
def byKey (key : V → Str) (xs : List V) : List V := xs.mergeSort (PySem.W.dataLe false fun x => PyData.str (key x))
def rSortK (K : PySem.W.Frag) : List V → List V → Hp → VK → Prop := fun vs zs H Q => ∃ (a : Addr) (xs : List V) (key : V → Str), vs = [.ref a] ∧ zs = [.ty "str"] ∧ SqL K H a xs ∧ (∀ x ∈ xs, KeyV H x (key x)) ∧ ∀ p, H p = none → Q (.ref p) (upd H p (.lst (byKey key xs)))
section
variable {X : Cx}
theorem each_of_vals : ∀ {xs : List V} {us : List Value}, Vals xs us → PySem.W.EachIs (fun u x => RelV x u) us xs
  | _, _, .nil => .nil
  | _, _, .cons h t => .cons h (each_of_vals t)
theorem vals_of_each : ∀ {xs : List V} {us : List Value}, PySem.W.EachIs (fun u x => RelV x u) us xs → Vals xs us
  | _, _, .nil => .nil
  | _, _, .cons h t => .cons h (vals_of_each t)
theorem each_get {α β : Type} {R : α → β → Prop} : ∀ {as : List α} {bs : List β}, PySem.W.EachIs R as bs → ∀ {i : Nat} {a : α} {b : β}, as[i]? = some a → bs[i]? = some b → R a b
  | _, _, .nil, i, a, b, h, _ => by simp at h
  | _, _, .cons r t, 0, a, b, h, k => by
    cases h
    cases k
    exact r
  | _, _, .cons r t, i + 1, a, b, h, k => each_get t (by simpa using h) (by simpa using k)
theorem cr_sortedStr (hg : X.A.guards = some []) (hu : X.A.units + 80 < cLine) : CallRK X (.builtin "sorted") [Str.ofString "key"] (rSortK X.K) := by
  intro pins s σ H vs zs us ws Q I r rz h
  obtain ⟨a, xs, key, rfl, rfl, hs, hk, q⟩ := h
  obtain rfl := Vals.ref1 r
  obtain ⟨w1, rfl, e1⟩ := vals1 rz
  obtain rfl : w1 = Value.type "str" := e1
  obtain ⟨its, rv, hl, hz⟩ := I.list hs
  have ev := each_of_vals rv
  refine sorted_at (vs := its) (kz := xs.map key) hl.isList (by rw [List.length_map]; exact rv.length) (by rw [← rv.length]; exact hz) (by omega) (fun _ => rfl) (fun h D k i v k0 hv hk0 h1 tk hb => ?_) fun h' tk c out k1 _ k2 k3 => ?_
  · rw [List.getElem?_map] at hk0
    obtain ⟨x, hx, rfl⟩ := Option.map_eq_some_iff.mp hk0
    have rx : RelV x v := each_get ev hv hx
    have kp : ∀ b o, s.heap.get? b = some o → h1.get? b = some o := fun b o z => hb b o (k b o z).1 (k b o z).2
    have kx := hk x (List.mem_of_getElem? hx)
    generalize key x = y at kx
    cases kx with
    | str x =>
      obtain ⟨t, rfl⟩ := rx
      exact PySem.P.str_of_str ⟨t, h1, tk, rfl, rfl, fun _ _ z => z⟩
    | @tup b ys ds h2 h3 h4 h5 h6 =>
      cases rx
      obtain ⟨_, us, rus, o, g, cl, n, dt⟩ := (show ObjOk X.prog X.w H s.heap _ (.tup _) from I.hok _ _ h2)
      obtain ⟨as, rd, nm⟩ := DqAll.reads I ds _ us h3 rus
      have R : Reads s.heap (.ref b) (.tuple ds) as := Reads.tuple g cl dt (by simpa using rd)
      exact str_of_reads R h4 (fun _ => nm) hg (by show X.A.units + 1 + 1 + _ < cLine; omega) kp (fun h2 u tk2 k5 => ⟨u, h2, tk2, rfl, rfl, k5⟩) (by rw [sizeLine_eq]; omega)
  · have ee := k3.each key ev
    have vv : Vals (byKey key xs) out := vals_of_each ee
    have lz : (byKey key xs).length ≤ sizeLine := by
      unfold byKey
      rw [(List.mergeSort_perm _ _).length_eq]
      exact hz
    exact ⟨.ref _, upd H (s.heap.objs.size + 1) (.lst (byKey key xs)), I.laid (t' := tk) k1 (Nat.le_succ _) ⟨lz, out, c, vv, k2⟩, rfl, q _ (I.hok.fresh (Nat.le_succ _))⟩
end
end KyS

set_option Elab.async false
set_option linter.all false
set_option maxRecDepth 100000
set_option maxHeartbeats 2000000
/-! ascending, unlike, joined. -/
namespace Tb
open PySem PySem.Spec PyProof.Rows L2 EvP Cm Fk DtE KyS XG
abbrev sAsc : Stmt := top 20
abbrev sUnlike : Stmt := top 31
abbrev sJoined : Stmt := top 32
abbrev NU : List Str := ["names", "name"]
theorem scAsc : FnScope ["values"] ["values"] (defScope sAsc) := ⟨rfl, rfl, rfl, by decide +kernel, rfl, by decide +kernel, by decide +kernel⟩
theorem scUnlike : FnScope NU ["names"] (defScope sUnlike) := ⟨rfl, rfl, rfl, by decide +kernel, rfl, by decide +kernel, by decide +kernel⟩
theorem scJoined : FnScope ["one", "other"] ["one", "other"] (defScope sJoined) := ⟨rfl, rfl, rfl, by decide +kernel, rfl, by decide +kernel, by decide +kernel⟩
/-- the key of a text -/
def keyS : V → Str
  | .str x => x
  | _ => ⟨#[]⟩
theorem byKey_strs (ns : List Str) : byKey keyS (ns.map V.str) = (srt ns).map V.str := by
  unfold byKey srt
  rw [PySem.W.dataLe_str]
  exact (PySem.W.sort_maps (r := fun a b : Str => decide (a.cps.toList ≤ b.cps.toList)) (s := fun a b : V => decide ((keyS a).cps.toList ≤ (keyS b).cps.toList)) V.str fun _ _ _ _ => rfl).symm
theorem KeyV.strs {H : Hp} (ns : List Str) : ∀ x ∈ ns.map V.str, KeyV H x (keyS x) := fun x hx => by
  obtain ⟨n, _, rfl⟩ := List.mem_map.mp hx
  exact .str n
def spAsc (K : PySem.W.Frag) : Sp := fun vs H Q _ => ∃ (a : Addr) (xs : List V) (key : V → Str), vs = [.ref a] ∧ SqL K H a xs ∧ (∀ x ∈ xs, KeyV H x (key x)) ∧ ∀ p H', Ex H H' → H p = none → H' p = some (.tup (byKey key xs)) → Q (.ref p) H'
theorem spAsc_len {K : PySem.W.Frag} : ∀ vs H Q E, spAsc K vs H Q E → vs.length = (["values"] : List Str).length := fun vs H Q E h => by
  obtain ⟨a, xs, key, rfl, _⟩ := h
  rfl
/-- each name once, as it comes first -/
def firsts (ns : List Str) : List Str := ns.foldl (fun acc n => if n ∈ acc then acc else acc ++ [n]) []
def trues (ns : List Str) : List (Key × V) := ns.map fun n => (Sum.inr n, V.bl true)
theorem trues_put (acc : List Str) (n : Str) : putK (trues acc) (Sum.inr n) (.bl true) = trues (if n ∈ acc then acc else acc ++ [n]) := by
  unfold putK trues
  have e : ((acc.map fun n => ((Sum.inr n : Key), V.bl true)).any fun kv => decide (kv.1 = Sum.inr n)) = decide (n ∈ acc) := by
    rw [Bool.eq_iff_iff, List.any_eq_true, decide_eq_true_eq]
    constructor
    · rintro ⟨p, hp, e⟩
      obtain ⟨m, hm, rfl⟩ := List.mem_map.mp hp
      rw [← Sum.inr.inj (of_decide_eq_true e)]
      exact hm
    · intro h
      exact ⟨_, List.mem_map.mpr ⟨n, h, rfl⟩, decide_eq_true rfl⟩
  rw [e]
  by_cases c : n ∈ acc
  · rw [decide_eq_true c, if_pos rfl, if_pos c, List.map_map]
    refine List.map_congr_left fun m _ => ?_
    show (if Sum.inr m = (Sum.inr n : Key) then _ else _) = _
    split <;> rfl
  · rw [decide_eq_false c, if_neg Bool.false_ne_true, if_neg c, List.map_append]
    rfl
theorem firsts_take {ns : List Str} {j : Nat} {n : Str} (h : ns[j]? = some n) : firsts (ns.take (j + 1)) = if n ∈ firsts (ns.take j) then firsts (ns.take j) else firsts (ns.take j) ++ [n] := by
  unfold firsts
  rw [List.take_add_one, h, List.foldl_append]
  rfl
theorem firsts_len : ∀ (ns acc : List Str), (ns.foldl (fun acc n => if n ∈ acc then acc else acc ++ [n]) acc).length ≤ acc.length + ns.length
  | [], acc => by simp
  | n :: ns, acc => by
    rw [List.foldl_cons]
    refine Nat.le_trans (firsts_len ns _) ?_
    split
    · rw [List.length_cons]
      omega
    · rw [List.length_append, List.length_singleton, List.length_cons]
      omega
def spUnlike (K : PySem.W.Frag) : Sp := fun vs H Q _ => ∃ (a : Addr) (ns : List Str), vs = [.ref a] ∧ SqL K H a (ns.map V.str) ∧ ns.length ≤ 1000 ∧ ∀ p H', Ex H H' → H p = none → H' p = some (.tup ((srt (firsts ns)).map V.str)) → Q (.ref p) H'
theorem spUnlike_len {K : PySem.W.Frag} : ∀ vs H Q E, spUnlike K vs H Q E → vs.length = (["names"] : List Str).length := fun vs H Q E h => by
  obtain ⟨a, ns, rfl, _⟩ := h
  rfl
def spJoined (K : PySem.W.Frag) : Sp := fun vs H Q _ => ∃ (a b : Addr) (ns ms : List Str), vs = [.ref a, .ref b] ∧ SqA K H a (ns.map V.str) ∧ SqA K H b (ms.map V.str) ∧ ns.length + ms.length ≤ 1000 ∧ ∀ p H', Ex H H' → H p = none → H' p = some (.tup ((srt (firsts (ns ++ ms))).map V.str)) → Q (.ref p) H'
theorem spJoined_len {K : PySem.W.Frag} : ∀ vs H Q E, spJoined K vs H Q E → vs.length = (["one", "other"] : List Str).length := fun vs H Q E h => by
  obtain ⟨a, b, ns, ms, rfl, _⟩ := h
  rfl
theorem pe_callG {X : Cx} {x : Str} {f : Addr} {fd : FuncData} {k : Nat} {ps : List Str} {sp : Sp} {e : Expr} {es : List Expr} {t : TA} {p pos : Pos} (F : XG.FnG X.prog X.w X.K X.mg X.base CX0 k f fd ps sp) (len : ∀ vs H Q E, sp vs H Q E → vs.length = ps.length) (gd : X.A.guards = some []) (hr : Room k X.A) (hg : Gl X x) (hm : X.mg x = some (.ref f)) (hk : PySem.W.keepIn X.K (.ref f) = true) (hb : Binds X.K fd ps [])
    (ha : PA X (e :: es) t) (hdb : (x == ("__debug__" : Str)) = false := by decide) (he : starEach (e :: es) X.env = (false, eval e X.env) :: starEach es X.env := by rfl) (hpl : (backTo pos (starEach es X.env)).any (·.1) = false := by rfl) :
    PE X (.Call (.Name x p) (e :: es) [] pos) (tCall sp [] E0 t) := by
  refine ⟨fun pins s σ H Q I h => wpAny_Call_Name_kw (ld_glob I hg hm ?_ hdb)⟩
  refine PySem.W.callWith_K (h₀ := X.base) I.ok.mod.kin hk (thn (ha.run pos pins s σ H _ I h) fun us s1 ⟨vs, H1, I1, r, q⟩ => ⟨I1.kIn, ?_⟩) he hpl
  replace q : sp vs H1 Q E0 := by
    have z : sp (vs ++ []) H1 Q E0 := q
    rw [List.append_nil] at z
    exact z
  have n : (us ++ []).length = ps.length := by rw [List.append_nil, ← r.length]; exact len _ _ _ _ q
  refine wpAny_call (codeAny_mono (F X.A X.stack s1 H1 ⟨us, []⟩ (us ++ []) vs Q E0 gd hr I1.env0 (hb s1 us I1.kIn n) (by rw [List.append_nil]; exact r) q) fun r' s' hq => ?_)
  cases r' with
  | error e => exact (show False from hq).elim
  | ok fl =>
    cases fl with
    | ret u => exact I1.after hq
    | next => exact False.elim hq
    | brk => exact False.elim hq
    | cont => exact False.elim hq
section
variable {P : Program} {w : World} {K : PySem.W.Frag} {mg : Str → Option Value} {base : Heap} {f fA fU : Addr} {fd fdA fdU : FuncData}
theorem ok_asc (F : Fun K "ascending" "ascending" sAsc f fd) (T : Blt mg) (T2 : Blt2 mg) : FnG P w K mg base CX0 1 f fd ["values"] (spAsc K) := by
  refine Fun.okG F scAsc spAsc_len fun cdv A outer s H vs Q E gd hr h => ?_
  obtain ⟨a, xs, key, rfl, hs, hk, q⟩ := h
  have hu := hr.un
  refine ⟨_, pss_one (ps_ret (pe_tupleOf (by rfl) T2.tuple (pe_callBK (cr_sortedStr gd (by show A.units + 3 + 80 < cLine; have : A.units + 3 + 16 * 0 + 200 < cLine := hu; omega)) (by rfl) T2.sorted (by decide +kernel) (pa_cons (pv 0) pa_nil) (pk_cons (pe_bltn (v := .ty "str") (by rfl) T.str (by decide +kernel) rfl) pk_nil)))), ?_⟩
  refine ⟨_, rfl, a, xs, key, rfl, rfl, hs, hk, fun p hp => .inl ⟨p, _, rfl, SqL.of upd_same, fun p2 hp2 => q p2 _ ((Ex.new hp).trans (Ex.new hp2)) ((Ex.new hp).back hp2) upd_same⟩⟩
theorem ok_unlike (F : Fun K "unlike" "unlike" sUnlike f fd) (T : Blt mg) (R : BltR mg) (GA : FnG P w K mg base CX0 1 fA fdA ["values"] (spAsc K)) (bA : Binds K fdA ["values"] []) (gA : mg "ascending" = some (.ref fA)) (kA : PySem.W.keepIn K (.ref fA) = true) :
    FnG P w K mg base CX0 2 f fd ["names"] (spUnlike K) := by
  have nd := scUnlike.nd
  refine Fun.okG F scUnlike spUnlike_len fun cdv A outer s H vs Q E gd hr h => ?_
  obtain ⟨a, ns, rfl, hs, few, q⟩ := h
  refine ⟨_, pss_one (ps_ret (pe_callG GA spAsc_len gd hr (by rfl) gA kA bA (pa_cons (pe_callTy (T := "list") (call_listD rfl) (by rfl) R.list (by decide +kernel) (pa_cons
    (pe_dc (own := [("name", 1)]) (g := gName 1) (tt := tYes) (tk := tVar 1) (tv := tC (.bl true)) rfl nd (pi_list (pv 0)) (blkOk_by (N := NU) (sc := defScope sUnlike) (by decide +kernel))
      (fun _ _ _ _ _ => pg_name (i := 1) nd rfl (Or.inl rfl)) (fun _ _ _ _ _ => pts_nil) (fun _ _ _ _ _ => pv 1) (fun _ _ _ _ _ => pe_bl)) pa_nil)) pa_nil))), ?_⟩
  refine ⟨_, rfl, a, rfl, ⟨_, hs⟩, fun D hD => ?_⟩
  have wl := walk_list (K := K) (a := a) (xs := ns.map V.str)
  rw [List.length_map] at wl
  have lf : ∀ n, (trues (firsts (ns.take n))).length ≤ 1000 := fun n => by
    have l := firsts_len (ns.take n) []
    unfold trues firsts
    rw [List.length_map]
    rw [List.length_take, List.length_nil] at l
    omega
  refine ⟨fun n m H' => m = ns.length - n ∧ n ≤ ns.length ∧ H' D = some (.dK (trues (firsts (ns.take n)))) ∧ Ex H H', ⟨ns.length, by simp, Nat.zero_le _, by rw [List.take_zero]; exact upd_same, Ex.new hD⟩, ?_⟩
  rintro n m H' ⟨rfl, hn, a1, a2⟩
  by_cases lt : n < ns.length
  · refine .inr ⟨wl.goes n H' lt (SqL.keep a2 hs), fun H3 => H3 D = some (.dK (trues (firsts (ns.take (n + 1))))) ∧ Ex H H3, fun H3 p => ⟨ns.length - (n + 1), by omega, rfl, lt, p⟩, fun x H3 y => ?_⟩
    obtain ⟨rfl, hx⟩ := wl.yields n H' x H3 lt (SqL.keep a2 hs) y
    rw [List.getElem?_map] at hx
    obtain ⟨nm, hnm, rfl⟩ := Option.map_eq_some_iff.mp hx
    refine ⟨rfl, ?_⟩
    show tYes _ H3 _
    unfold tYes
    dsimp only
    rw [if_pos rfl]
    refine ⟨_, rfl, _, Sum.inr nm, rfl, a1, ?_, ?_, fun b o hb => ?_⟩
    · rw [sizeLine_eq]
      have := lf n
      omega
    · rw [upd_same, trues_put, ← firsts_take hnm]
    · rw [upd_ne (ne_of_none hb hD)]
      exact a2 _ _ hb
  · have e : n = ns.length := by omega
    subst e
    rw [List.take_length] at a1
    refine .inl ⟨wl.stops H' (SqL.keep a2 hs), D, _, rfl, .inl a1, fun p hp => ?_⟩
    have ev : (trues (firsts ns)).map (fun kv => kV kv.1) = (firsts ns).map V.str := by
      unfold trues
      rw [List.map_map]
      rfl
    have e2 := a2.trans (Ex.new (o := .lst ((trues (firsts ns)).map fun kv => kV kv.1)) hp)
    refine ⟨p, (firsts ns).map V.str, keyS, rfl, SqL.of (by rw [upd_same, ev]), KeyV.strs _, fun p2 H2 e3 np h2 => q p2 H2 (e2.trans e3) (e2.back np) ?_⟩
    rw [h2, byKey_strs]
theorem ok_joined (F : Fun K "joined" "joined" sJoined f fd) (GU : FnG P w K mg base CX0 2 fU fdU ["names"] (spUnlike K)) (bU : Binds K fdU ["names"] []) (gU : mg "unlike" = some (.ref fU)) (kU : PySem.W.keepIn K (.ref fU) = true) :
    FnG P w K mg base CX0 3 f fd ["one", "other"] (spJoined K) := by
  refine Fun.okG F scJoined spJoined_len fun cdv A outer s H vs Q E gd hr h => ?_
  obtain ⟨a, b, ns, ms, rfl, ha, hb, few, q⟩ := h
  refine ⟨_, pss_one (ps_ret (pe_callG GU spUnlike_len gd hr (by rfl) gU kU bU (pa_cons (pe_lst (StX.pa_star (pv 0) (StX.pa_star (pv 1) pa_nil))) pa_nil))), ?_⟩
  refine ⟨_, rfl, a, _, rfl, ha.symm, _, rfl, b, _, rfl, hb.symm, ?_, fun p hp => ⟨p, ns ++ ms, rfl, SqL.of (by rw [upd_same, List.map_append, List.append_nil]), by rw [List.length_append]; exact few, fun p2 H2 e2 np h2 => q p2 H2 ((Ex.new hp).trans e2) ((Ex.new hp).back np) h2⟩⟩
  rw [sizeLine_eq]
  simp only [List.length_append, List.length_map, List.length_nil]
  omega
end
end Tb

set_option Elab.async false
set_option linter.all false
set_option maxRecDepth 100000
set_option maxHeartbeats 2000000
/-! The pairs of a table, in the order of their texts. -/
namespace Tb
open PySem PySem.Spec PyProof.Rows L2 EvP Cm Fk DtE KyS XG
def toD : Key → PyData
  | .inl i => .int i
  | .inr x => .str x
def dOf : V → PyData
  | .str x => .str x
  | .int i => .int i
  | _ => .none
theorem dOf_kV (k : Key) : dOf (kV k) = toD k := by cases k <;> rfl
/-- a key as Python shows it -/
def textK (k : List Key) : Str := (PyData.tuple (k.map toD)).shown
def leK : List Key → List Key → Bool := PySem.W.dataLe false fun k => PyData.str (textK k)
def sortK (ks : List (List Key)) : List (List Key) := ks.mergeSort leK
def keyH (H : Hp) : V → Str
  | .ref b => match H b with
    | some (.tup ys) => (PyData.tuple (ys.map dOf)).shown
    | _ => ⟨#[]⟩
  | _ => ⟨#[]⟩
theorem keyH_of {H : Hp} {b : Addr} {k : List Key} (h : H b = some (.tup (k.map kV))) : keyH H (.ref b) = textK k := by
  unfold keyH textK
  show (match H b with
    | some (.tup ys) => (PyData.tuple (ys.map dOf)).shown
    | _ => ⟨#[]⟩) = _
  rw [h]
  show (PyData.tuple ((k.map kV).map dOf)).shown = _
  rw [List.map_map, show dOf ∘ kV = toD from funext dOf_kV]
theorem name_small {x : Str} (h : nameB x = true) : x.length ≤ 8 ∧ ∀ c ∈ x.cps.toList, c < 16 ^ 8 := by
  unfold nameB at h
  simp only [Bool.and_eq_true, decide_eq_true_eq] at h
  refine ⟨by have := h.1.1.1.1; omega, fun c hc => ?_⟩
  have a := h.1.1.2
  unfold Txt.isascii at a
  rw [← Array.all_toList, List.all_eq_true] at a
  have := of_decide_eq_true (a c hc)
  exact Nat.lt_trans this (by decide)
theorem text_len {a x : Str} (ha : nameB a = true) (hx : nameB x = true) : (textK (key2 a x)).length ≤ 100000 := by
  obtain ⟨a1, a2⟩ := name_small ha
  obtain ⟨x1, x2⟩ := name_small hx
  have b1 := StrLaws.reprText_len a a2
  have b2 := StrLaws.reprText_len x x2
  show (("(" : Str) ++ Str.join ", " [reprText a, reprText x] ++ ((")" : String) : Str)).length ≤ 100000
  have j := join_length_add [reprText a, reprText x] (by simp)
  rw [piled_cons, piled_cons] at j
  have z : piled [] = 0 := rfl
  rw [strLen_append, strLen_append, show (("(" : String) : Str).length = 1 from rfl, show ((")" : String) : Str).length = 1 from rfl]
  omega
/-- keys that are pairs of names -/
def PairK (k : List Key) : Prop := ∃ a x, k = key2 a x ∧ NameV (.str a) ∧ NameV (.str x)
theorem keyV_of {H : Hp} {b : Addr} {k : List Key} (h : H b = some (.tup (k.map kV))) (p : PairK k) : KeyV H (.ref b) (keyH H (.ref b)) := by
  rw [keyH_of h]
  obtain ⟨a, x, rfl, ⟨y, ey, _, ha⟩, ⟨z, ez, _, hx⟩⟩ := p
  cases ey
  cases ez
  exact .tup (ds := [.str a, .str x]) h (.cons (.str a) (.cons (.str x) .nil)) rfl (by show (1 : Nat) ≤ 60; decide) (text_len ha hx)
theorem all2_keys {H : Hp} : ∀ {l : List (List Key × Addr)}, (∀ p ∈ l, H p.2 = some (.tup (p.1.map kV))) → All2 H ((l.map (·.1)).map fun k => tupV (k.map kV)) (l.map fun p => V.ref p.2)
  | [], _ => .nil
  | p :: l, h => .cons ⟨p.2, rfl, h p (.head _)⟩ (all2_keys fun q hq => h q (.tail _ hq))
theorem zip_keys {H : Hp} : ∀ {kvs : List (List Key × V)} {bs : List Addr}, IsKeys H kvs bs → (∀ p ∈ (kvs.map (·.1)).zip bs, H p.2 = some (.tup (p.1.map kV))) ∧ ((kvs.map (·.1)).zip bs).map (·.1) = kvs.map (·.1) ∧ ((kvs.map (·.1)).zip bs).map (fun p => V.ref p.2) = bs.map V.ref
  | _, _, .nil => ⟨(fun p hp => by cases hp), rfl, rfl⟩
  | _, _, .cons h t => by
    obtain ⟨h1, h2, h3⟩ := zip_keys t
    refine ⟨fun p hp => ?_, ?_, ?_⟩
    · rcases List.mem_cons.mp hp with rfl | hp
      · exact h
      · exact h1 p hp
    · show _ :: _ = _ :: _
      exact congrArg _ h2
    · show _ :: _ = _ :: _
      exact congrArg _ h3
theorem asc_pairs {H : Hp} {r : TRow} {bs : List Addr} (h : IsKeys H (tents r) bs) (p : ∀ t ∈ r, PairK t.1) : (∀ x ∈ bs.map V.ref, KeyV H x (keyH H x)) ∧ All2 H ((sortK (r.map (·.1))).map fun k => tupV (k.map kV)) (byKey (keyH H) (bs.map V.ref)) := by
  obtain ⟨h1, h2, h3⟩ := zip_keys h
  have er : (tents r).map (·.1) = r.map (·.1) := by
    unfold tents
    rw [List.map_map]
    rfl
  rw [er] at h1 h2 h3
  generalize (r.map (·.1)).zip bs = L at h1 h2 h3
  rw [← h3, ← h2]
  refine ⟨fun x hx => ?_, ?_⟩
  · obtain ⟨q, hq, rfl⟩ := List.mem_map.mp hx
    refine keyV_of (h1 q hq) ?_
    have m : q.1 ∈ r.map (·.1) := by
      rw [← h2]
      exact List.mem_map.mpr ⟨q, hq, rfl⟩
    obtain ⟨t, ht, e⟩ := List.mem_map.mp m
    rw [← e]
    exact p t ht
  · have e1 : byKey (keyH H) (L.map fun p => V.ref p.2) = (L.mergeSort fun p q => leK p.1 q.1).map fun p => V.ref p.2 := by
      refine (PySem.W.sort_maps (fun p : List Key × Addr => V.ref p.2) fun a ha b hb => ?_).symm
      unfold leK
      rw [PySem.W.dataLe_str, PySem.W.dataLe_str]
      show decide ((textK a.1).cps.toList ≤ (textK b.1).cps.toList) = decide ((keyH H (V.ref a.2)).cps.toList ≤ (keyH H (V.ref b.2)).cps.toList)
      rw [keyH_of (h1 a ha), keyH_of (h1 b hb)]
    have e2 : sortK (L.map (·.1)) = (L.mergeSort fun p q => leK p.1 q.1).map (·.1) := (PySem.W.sort_maps (fun p : List Key × Addr => p.1) fun _ _ _ _ => rfl).symm
    rw [e1, e2]
    exact all2_keys fun q hq => h1 q ((List.mergeSort_perm _ _).mem_iff.mp hq)
end Tb

set_option Elab.async false
set_option linter.all false
set_option maxRecDepth 100000
set_option maxHeartbeats 2000000
/-! Table.__init__. -/
namespace Tb
open PySem PySem.Spec PyProof.Rows L2 EvP Cm Fk DtE KyS XG
def tmeth (j : Nat) : Stmt := match top 34 with
  | .ClassDef _ _ _ body _ _ _ _ _ _ _ => body.getD j (.Pass ⟨0, 0, 0, 0⟩)
  | _ => .Pass ⟨0, 0, 0, 0⟩
abbrev sTI : Stmt := tmeth 0
abbrev NI : List Str := ["self", "rows", "uses", "row", "use", "a", "x", "worth"]
theorem scTI : FnScope NI ["self", "rows", "uses"] (defScope sTI) := ⟨rfl, rfl, rfl, by decide +kernel, rfl, by decide +kernel, by decide +kernel⟩
theorem TabAt.ne {H : Hp} {d : Addr} {T : Tab} (h : TabAt H d T) : ∀ t ∈ T, t.2.1 ≠ d := fun t ht z => by
  have a := h.row t ht
  rw [z, h.at_] at a
  have b := HO.dK.inj (Option.some.inj a)
  cases c : t.2.2 with
  | nil =>
    rw [c] at b
    rw [List.map_eq_nil_iff.mp b] at ht
    cases ht
  | cons e r =>
    rw [c] at b
    cases T with
    | nil => cases ht
    | cons t0 T0 => cases (Prod.mk.inj (List.cons.inj b).1).2
theorem locks_nod {H : Hp} {d : Addr} {T : Tab} (h : TabAt H d T) (n : (T.map (·.2.1)).Nodup) : ((locks d T).map (·.1)).Nodup := by
  unfold locks
  rw [List.map_cons, List.map_map, List.nodup_cons]
  refine ⟨fun m => ?_, n⟩
  obtain ⟨t, ht, e⟩ := List.mem_map.mp m
  exact h.ne t ht e
theorem locks_at {H : Hp} {d : Addr} {T : Tab} (h : TabAt H d T) : ∀ p ∈ locks d T, H p.1 = some p.2 ∧ Mut (some p.2) := fun p hp => by
  rcases List.mem_cons.mp hp with rfl | hp
  · exact ⟨h.at_, True.intro⟩
  · obtain ⟨t, ht, rfl⟩ := List.mem_map.mp hp
    exact ⟨h.row t ht, True.intro⟩
theorem Froz.tab {H Hf : Hp} {d : Addr} {T : Tab} (f : Froz (locks d T) H Hf) : TabF Hf d T := ⟨f.at_ _ (.head _), fun t ht => f.at_ _ (.tail _ (List.mem_map.mpr ⟨t, ht, rfl⟩))⟩
/-- the names in the rows, one row behind another -/
def namesOf (T : Tab) : List Str := T.flatMap fun t => t.2.2.map (·.1)
def ysOf (T : Tab) : V → List V
  | .ref r => match T.find? (fun t => decide (t.2.1 = r)) with
    | some t => t.2.2.map fun e => V.str e.1
    | none => []
  | _ => []
theorem ysOf_of : ∀ {T : Tab}, (T.map (·.2.1)).Nodup → ∀ t ∈ T, ysOf T (.ref t.2.1) = t.2.2.map fun e => V.str e.1
  | [], _, t, h => by cases h
  | t0 :: T, n, t, h => by
    rw [List.map_cons, List.nodup_cons] at n
    by_cases c : t0.2.1 = t.2.1
    · rcases List.mem_cons.mp h with rfl | h
      · show (match List.find? (fun t' : Str × Addr × Fk.Row => decide (t'.2.1 = t.2.1)) (t :: T) with
          | some t => t.2.2.map fun e : Str × Int => V.str e.1
          | none => []) = _
        rw [List.find?_cons, decide_eq_true rfl]
      · exact absurd (List.mem_map.mpr ⟨t, h, c.symm⟩) n.1
    · have hT : t ∈ T := (List.mem_cons.mp h).resolve_left fun e => c (by rw [e])
      have ih := ysOf_of n.2 t hT
      show (match List.find? (fun t' : Str × Addr × Fk.Row => decide (t'.2.1 = t.2.1)) (t0 :: T) with
          | some t => t.2.2.map fun e : Str × Int => V.str e.1
          | none => []) = _
      rw [List.find?_cons, decide_eq_false c]
      exact ih
theorem ys_flat {T : Tab} (n : (T.map (·.2.1)).Nodup) : ((T.map fun t => V.ref t.2.1).flatMap (ysOf T)) = (namesOf T).map V.str := by
  have e : ∀ (S : Tab), (∀ t ∈ S, t ∈ T) → (S.map fun t => V.ref t.2.1).flatMap (ysOf T) = (namesOf S).map V.str := fun S => by
    induction S with
    | nil => intro _; rfl
    | cons t S ih =>
      intro h
      unfold namesOf at ih ⊢
      rw [List.map_cons, List.flatMap_cons, List.flatMap_cons, List.map_append, ih fun t' ht' => h t' (.tail _ ht'), ysOf_of n t (h t (.head _)), List.map_map]
      rfl
  exact e T fun _ h => h
/-- the class Table -/
structure TblC (K : PySem.W.Frag) (C : Addr) : Prop where
  cl : Cls K C
  nS : NoAttr K C "sources"
  nU : NoAttr K C "uses"
  nW : NoAttr K C "_worths"
  nP : NoAttr K C "pairs"
/-- the table at x: its sources, its uses, its worths -/
structure TblAt (C : Addr) (H : Hp) (x : Addr) (ss xs : List Str) (r : TRow) : Prop where
  ex : ∃ (dx n1 n2 dw p : Addr) (prs : List V), H x = some (.ins C dx [("sources", .ref n1), ("uses", .ref n2), ("_worths", .ref dw), ("pairs", .ref p)]) ∧ H n1 = some (.tup (ss.map V.str)) ∧ H n2 = some (.tup (xs.map V.str)) ∧ H dw = some (.dT (tents r)) ∧
    H p = some (.tup prs) ∧ All2 H ((sortK (r.map (·.1))).map fun k => tupV (k.map kV)) prs
theorem TblAt.mono {C x : Addr} {H H' : Hp} {ss xs : List Str} {r : TRow} (e : Ex H H') (h : TblAt C H x ss xs r) : TblAt C H' x ss xs r := by
  obtain ⟨dx, n1, n2, dw, p, prs, h1, h2, h3, h4, h5, h6⟩ := h
  exact ⟨dx, n1, n2, dw, p, prs, e _ _ h1, e _ _ h2, e _ _ h3, e _ _ h4, e _ _ h5, h6.ex e⟩
/-- all uses of a table -/
def usesOf (us : List Str) (T : Tab) : List Str := srt (firsts (us ++ namesOf T))
def spTI (K : PySem.W.Frag) (C : Addr) : Sp := fun vs H Q _ => ∃ (x d u dx : Addr) (T : Tab) (us : List Str), vs = [.ref x, .ref d, .ref u] ∧ H x = some (.ins C dx []) ∧ TabAt H d T ∧ TabOk T ∧ T.length ≤ 6 ∧ SqA K H u (us.map V.str) ∧ (∀ n ∈ us, NameV (.str n)) ∧ us.length ≤ 100 ∧ (usesOf us T).length ≤ 6 ∧
  ∀ H', (∀ b o, H b = some o → b ≠ x → H' b = some o) → TblAt C H' x (srt (T.map (·.1))) (usesOf us T) (worths T) → Q .non H'
theorem spTI_len {K : PySem.W.Frag} {C : Addr} : ∀ vs H Q E, spTI K C vs H Q E → vs.length = (["self", "rows", "uses"] : List Str).length := fun vs H Q E h => by
  obtain ⟨x, d, u, dx, T, us, rfl, _⟩ := h
  rfl
theorem FunD.okG {P : Program} {w : World} {K : PySem.W.Frag} {mg : Str → Option Value} {base : Heap} {x qual : Str} {params : Arguments} {body : List Stmt} {scope : Scope} {dvs : List V} {kws : List (Str × V)} {f : Addr} {fd : FuncData} {N ps : List Str} {k : Nat} {sp : Sp}
    (F : FunD K x qual params body scope dvs kws f fd) (S : FnScope N ps scope) (len : ∀ vs H Q E, sp vs H Q E → vs.length = ps.length)
    (walk : ∀ (cdv : Value) (A : Around) (outer : List Env) (s : Shared) (H : Hp) (vs : List V) (Q : VK) (E : XK), A.guards = some [] → Room k (A.deeper (envOfC qual scope s.heap.objs.size f cdv)) → sp vs H Q E →
      ∃ t, PSs (cxOf CX0 P w K mg base N qual scope f cdv A outer s H E).nox body t ∧ t { nx := fun _ H' => Q .non H', rt := Q } (start N vs) H) : FnG P w K mg base CX0 (k + 1) f fd ps sp := by
  obtain ⟨oc, od, dV, kV, doc, pm, an, cdv, ct, osl, rfl, lk, hcd, _, _⟩ := F.ex
  refine fnG_of lk hcd S len fun A outer s H vs Q E gd room h => ?_
  obtain ⟨t, a, b⟩ := walk cdv A outer s H vs Q E gd room h
  exact ⟨t, a.nox, b⟩
section
variable {P : Program} {w : World} {K : PySem.W.Frag} {mg : Str → Option Value} {base : Heap} {C f fC fA fJ : Addr} {fd fdC fdA fdJ : FuncData} {dvs : List V} {kws : List (Str × V)} {σ : L2.St} {H : Hp}
theorem g_ascL {ns : List Str} {te : TE} (h : EvP.Gives te σ H (lstV (ns.map V.str))) : EvP.Gives (tCall (spAsc K) [] E0 (tCons te tNil)) σ H (tupV ((srt ns).map V.str)) := fun H1 e Q q =>
  h H1 e _ fun v H2 e2 ⟨a, ev, ha⟩ => by
    subst ev
    exact ⟨a, ns.map V.str, keyS, rfl, SqL.of ha, KeyV.strs ns, fun p2 H3 e3 np h3 => q _ H3 (e2.trans e3) ⟨p2, rfl, by rw [h3, byKey_strs]⟩⟩
theorem g_listD {i : Nat} {d : Addr} {kvs : List (Key × V)} (hi : σ[i]? = some (some (.ref d))) (hd : H d = some (.dK kvs)) : EvP.Gives (tCB (fun xs H Q => ∃ (a : Addr) (kvs : List (Key × V)), xs = [.ref a] ∧ Rd H a (.dK kvs) ∧ ∀ p, H p = none → Q (.ref p) (upd H p (.lst (kvs.map fun kv => kV kv.1)))) (tCons (tVar i) tNil)) σ H (lstV (kvs.map fun kv => kV kv.1)) :=
  fun H1 e Q q => ⟨_, hi, d, kvs, rfl, .inl (e _ _ hd), fun p hp => q _ _ (Ex.new hp) ⟨p, rfl, upd_same⟩⟩
/-- [use for row in rows.values() for use in row] -/
theorem g_uses {x d u : Addr} {T : Tab} (h : TabAt H d T) (ok : TabOk T) : EvP.Gives (tLockL (tLc2 (iVals (tVar 1)) (gName 3) tYes (iKeys (tVar 3)) (gName 4) tYes (tVar 4) [3, 4] [4])) (σ0 x d u) H (lstV ((namesOf T).map V.str)) := by
  refine g_lockL (locks_nod h ok.nodA) (locks_at h) fun H1 e1 Hf fr => ?_
  have tf := Froz.tab fr
  obtain ⟨od, hd⟩ := tf.at_
  have w := walks_vals (m := 1) (σ := σ0 x d u) rfl hd
  rw [List.map_map] at w
  have few : (namesOf T).length ≤ 1000 := by
    have l : ∀ (S : Tab), (∀ t ∈ S, t ∈ T) → (namesOf S).length ≤ 31 * S.length := fun S => by
      induction S with
      | nil => intro _; simp [namesOf]
      | cons t S ih =>
        intro hS
        have := ih fun t' ht' => hS t' (.tail _ ht')
        have := (ok.row t (hS t (.head _))).2.2
        unfold namesOf at *
        rw [List.flatMap_cons, List.length_append, List.length_map, List.length_cons]
        omega
    have := l T fun _ h => h
    have := ok.few
    omega
  have c := comp2 (te := tVar 4) (i := 3) (j := 4) (vs := [3, 4]) (vs1 := [4]) (wi1 := iKeys (tVar 3)) (ys := ysOf T) id w (by
      show ((T.map fun t => V.ref t.2.1).flatMap (ysOf T)).length ≤ 1000
      rw [ys_flat ok.nodA, List.length_map]
      exact few) (fun _ => rfl) (fun _ _ => rfl) (fun y hy => ?_) (fun y hy z hz => EvP.var rfl)
  · rw [List.map_id] at c
    rw [← ys_flat ok.nodA]
    exact c
  · obtain ⟨t, ht, rfl⟩ := List.mem_map.mp hy
    obtain ⟨o2, h2⟩ := tf.row t ht
    have wk := walksD_keys (m := 3) (σ := (wipe (σ0 x d u) [3, 4]).set 3 (some (.ref t.2.1))) (H := Hf) rfl h2
    have e : (ents t.2.2).map (fun p => kV p.1) = ysOf T (.ref t.2.1) := by
      rw [ysOf_of ok.nodA t ht]
      unfold ents
      rw [List.map_map]
      rfl
    rw [e] at wk
    exact wk
end
end Tb

set_option Elab.async false
set_option linter.all false
set_option maxRecDepth 100000
set_option maxHeartbeats 4000000
/-! Tests and signs that only add objects; a walk over a side. -/
namespace Cm
open PySem PySem.Spec PyProof.Rows L2 EvP
/-- a test that says b, and only adds -/
def Tst (tt : TT) (σ : L2.St) (H : Hp) (b : Bool) : Prop := ∀ H1, Ex H H1 → ∀ Q : Bool → Hp → Prop, (∀ H2, Ex H1 H2 → Q b H2) → tt σ H1 Q
section
variable {K : PySem.W.Frag} {σ : L2.St} {H : Hp} {ta tb te tc : TE} {P R S : PR} {tt tu : TT} {b c : Bool} {t u : TS} {D : Ends}
theorem t_or (h : Tst tt σ H false) (k : Tst tu σ H b) : Tst (tOr tt tu) σ H b := fun H1 e Q q =>
  h H1 e _ fun H2 e2 => (by
    show tu σ H2 Q
    exact k H2 (e.trans e2) Q fun H3 e3 => q H3 (e2.trans e3))
theorem t_and (h : Tst tt σ H true) (k : Tst tu σ H b) : Tst (tAnd tt tu) σ H b := fun H1 e Q q =>
  h H1 e _ fun H2 e2 => (by
    show tu σ H2 Q
    exact k H2 (e.trans e2) Q fun H3 e3 => q H3 (e2.trans e3))
theorem t_andF (h : Tst tt σ H false) : Tst (tAnd tt tu) σ H false := fun H1 e Q q => h H1 e _ fun H2 e2 => q H2 e2
theorem t_not (h : Tst tt σ H b) : Tst (tNot tt) σ H (!b) := fun H1 e Q q => h H1 e _ q
theorem t_val (h : EvP.Gives te σ H (is (.bl b))) : Tst (tB te) σ H b := fun H1 e Q q => h H1 e _ fun v H2 e2 ev => ⟨b, ev, q _ e2⟩
theorem t_test (h : EvP.Gives te σ H (is (.bl b))) : Tst (tTest te) σ H b := fun H1 e Q q => h H1 e _ fun v H2 e2 ev => ⟨b, ev, q _ e2⟩
/-- a sign of two values -/
theorem g_op {r : R2} (h : EvP.Gives ta σ H P) (k : EvP.Gives tb σ H R) (step : ∀ x y H1, Ex H H1 → P.R x H1 → R.R y H1 → ∀ Q : VK, (∀ v H2, Ex H1 H2 → S.R v H2 → Q v H2) → r x y H1 Q) : EvP.Gives (tOp r ta tb) σ H S := fun H1 e Q q =>
  h H1 e _ fun x H2 e2 hx => k H2 (e.trans e2) _ fun y H3 e3 hy => step x y H3 ((e.trans e2).trans e3) (P.mono _ _ _ e3 hx) hy Q fun v H4 e4 hv => q v H4 ((e2.trans e3).trans e4) hv
/-- a call of a built-in, one argument -/
theorem g_call {r : List V → Hp → VK → Prop} (h : EvP.Gives te σ H P) (step : ∀ x H1, Ex H H1 → P.R x H1 → ∀ Q : VK, (∀ v H2, Ex H1 H2 → S.R v H2 → Q v H2) → r [x] H1 Q) : EvP.Gives (tCB r (tCons te tNil)) σ H S := fun H1 e Q q =>
  h H1 e _ fun x H2 e2 hx => step x H2 (e.trans e2) hx Q fun v H3 e3 hv => q v H3 (e2.trans e3) hv
theorem g_and (h : EvP.Gives ta σ H (is (.bl true))) (k : EvP.Gives tb σ H P) : EvP.Gives (tAndV ta tb) σ H P := fun H1 e Q q =>
  h H1 e _ fun v H2 e2 ev => ⟨true, ev, (by
    show tb σ H2 Q
    exact k H2 (e.trans e2) Q fun u H3 e3 hu => q u H3 (e2.trans e3) hu)⟩
theorem st_ifF (h : Tst tt σ H false) (k : ∀ H1, Ex H H1 → u D σ H1) : tSeq (tIfS tt t tNext) u D σ H := h H (Ex.refl H) _ k
theorem st_ifT (h : Tst tt σ H true) (k : ∀ H1, Ex H H1 → t { D with nx := u D } σ H1) : tSeq (tIfS tt t tNext) u D σ H := h H (Ex.refl H) _ k
/-- the last statement of a block -/
theorem st_ifF1 (h : Tst tt σ H false) (k : ∀ H1, Ex H H1 → D.nx σ H1) : tIfS tt t tNext D σ H := h H (Ex.refl H) _ k
end
end Cm

set_option Elab.async false
set_option linter.all false
set_option maxRecDepth 100000
set_option maxHeartbeats 4000000
/-! Table.__init__: the body. -/
namespace Tb
open PySem PySem.Spec PyProof.Rows L2 EvP Cm Fk DtE KyS XG
theorem g_gt6 {K : PySem.W.Frag} {σ : L2.St} {H : Hp} {te : TE} {xs : List V} (h : EvP.Gives te σ H (tupV xs)) (l : xs.length ≤ 6) {r : List V → Hp → VK → Prop} (hr : ∀ p H1 Q, SqT K H1 p xs → Q (.int (xs.length : Nat)) H1 → r [.ref p] H1 Q) :
    Tst (tTest (tOp (rI0 fun i j => .bl (decide (j < i))) (tCB r (tCons te tNil)) (tC (.int 6)))) σ H false :=
  t_test (g_op (P := is (.int (xs.length : Nat))) (R := is (.int 6)) (g_call h fun x H1 e ⟨a, ev, ha⟩ Q q => by
    subst ev
    exact hr a H1 Q (SqT.of ha) (q _ _ (Ex.refl _) rfl)) EvP.cst fun x y H1 e ex ey Q q => ⟨(xs.length : Nat), 6, ex, ey, by
    show Q (.bl (decide ((6 : Int) < (xs.length : Nat)))) H1
    rw [decide_eq_false (by omega)]
    exact q _ _ (Ex.refl _) rfl⟩)
theorem TabAt.but {H G : Hp} {x d C dx : Addr} {fs : List (Str × V)} {T : Tab} (hx : H x = some (.ins C dx fs)) (k : ∀ b o, H b = some o → b ≠ x → G b = some o) (h : TabAt H d T) : TabAt G d T :=
  ⟨k _ _ h.at_ (ne_of h.at_ hx fun z => nomatch z), fun t ht => k _ _ (h.row t ht) (ne_of (h.row t ht) hx fun z => nomatch z)⟩
theorem SqA.but {K : PySem.W.Frag} {H G : Hp} {x a C dx : Addr} {fs : List (Str × V)} {xs : List V} (hx : H x = some (.ins C dx fs)) (k : ∀ b o, H b = some o → b ≠ x → G b = some o) (h : SqA K H a xs) : SqA K G a xs := by
  rcases h with ((h | ⟨o, h⟩) | h) | ((h | ⟨o, h⟩) | h)
  · exact .inl (.inl (.inl (k _ _ h (ne_of h hx fun z => nomatch z))))
  · exact .inl (.inl (.inr ⟨o, k _ _ h (ne_of h hx fun z => nomatch z)⟩))
  · exact .inl (.inr h)
  · exact .inr (.inl (.inl (k _ _ h (ne_of h hx fun z => nomatch z))))
  · exact .inr (.inl (.inr ⟨o, k _ _ h (ne_of h hx fun z => nomatch z)⟩))
  · exact .inr (.inr h)
theorem keys_stay {H : Hp} {x : Addr} {o o' : HO} (hx : H x = some o) (ho : ∀ ys, o ≠ .tup ys) : ∀ {ks : List (List Key)} {vs : List V}, All2 H (ks.map fun k => tupV (k.map kV)) vs → All2 (upd H x o') (ks.map fun k => tupV (k.map kV)) vs
  | [], _, .nil => .nil
  | k :: ks, _, .cons ⟨a, ev, ha⟩ r => .cons ⟨a, ev, by
    rw [upd_ne (fun z => by
      rw [z, hx] at ha
      exact ho _ (Option.some.inj ha))]
    exact ha⟩ (keys_stay hx ho r)
theorem names_few {T : Tab} (ok : TabOk T) : (namesOf T).length ≤ 961 := by
  have l : ∀ (S : Tab), (∀ t ∈ S, t ∈ T) → (namesOf S).length ≤ 31 * S.length := fun S => by
    induction S with
    | nil => intro _; simp [namesOf]
    | cons t S ih =>
      intro hS
      have := ih fun t' ht' => hS t' (.tail _ ht')
      have := (ok.row t (hS t (.head _))).2.2
      unfold namesOf at *
      rw [List.flatMap_cons, List.length_append, List.length_map, List.length_cons]
      omega
  have := l T fun _ h => h
  have := ok.few
  omega
theorem worths_few {T : Tab} (ok : TabOk T) : (worths T).length ≤ 961 := by
  have l : ∀ (S : Tab), (worths S).length ≤ (namesOf S).length := fun S => by
    induction S with
    | nil => simp [worths, namesOf]
    | cons t S ih =>
      unfold worths namesOf wrow at *
      rw [List.flatMap_cons, List.flatMap_cons, List.length_append, List.length_append, List.length_map, List.length_map]
      have := List.length_filter_le (fun e : Str × Int => decide (0 < e.2)) t.2.2
      omega
  exact Nat.le_trans (l T) (names_few ok)
theorem mem_worths {T : Tab} {z : List Key × Int} (h : z ∈ worths T) : ∃ t ∈ T, ∃ e ∈ t.2.2, 0 < e.2 ∧ z = (key2 t.1 e.1, e.2) := by
  obtain ⟨t, ht, hz⟩ := List.mem_flatMap.mp h
  obtain ⟨e, he, rfl⟩ := List.mem_map.mp hz
  exact ⟨t, ht, e, (List.mem_filter.mp he).1, of_decide_eq_true (List.mem_filter.mp he).2, rfl⟩
theorem key2_inj {a b x y : Str} (h : key2 a x = key2 b y) : a = b ∧ x = y := by
  unfold key2 at h
  have h1 := (List.cons.inj h).1
  have h2 := (List.cons.inj (List.cons.inj h).2).1
  exact ⟨Sum.inr.inj h1, Sum.inr.inj h2⟩
theorem wrow_nod (a : Str) {r : Fk.Row} (h : (r.map (·.1)).Nodup) : ((wrow a r).map (·.1)).Nodup := by
  unfold wrow
  rw [List.map_map]
  have h2 : ((r.filter fun e => decide (0 < e.2)).map (·.1)).Nodup := h.sublist (List.filter_sublist.map _)
  rw [List.nodup_iff_pairwise_ne, List.pairwise_map] at h2 ⊢
  exact h2.imp fun ne e => ne (key2_inj e).2
theorem worths_nod {T : Tab} (ok : TabOk T) : ((worths T).map (·.1)).Nodup := by
  have l : ∀ (S : Tab), (S.map (·.1)).Nodup → (∀ t ∈ S, t ∈ T) → ((worths S).map (·.1)).Nodup := fun S => by
    induction S with
    | nil => intro _ _; exact List.nodup_nil
    | cons t S ih =>
      intro nd hS
      rw [List.map_cons, List.nodup_cons] at nd
      have i2 := ih nd.2 fun t' ht' => hS t' (.tail _ ht')
      have e : worths (t :: S) = wrow t.1 t.2.2 ++ worths S := by
        unfold worths
        rw [List.flatMap_cons]
      rw [e, List.map_append, List.nodup_append]
      refine ⟨wrow_nod _ (ok.row t (hS t (.head _))).1, i2, fun k hk k' hk' ee => ?_⟩
      obtain ⟨z, hz, rfl⟩ := List.mem_map.mp hk
      obtain ⟨z', hz', rfl⟩ := List.mem_map.mp hk'
      obtain ⟨c, _, rfl⟩ := List.mem_map.mp hz
      obtain ⟨t', ht', c', _, _, rfl⟩ := mem_worths hz'
      have := (key2_inj ee).1
      exact nd.1 (List.mem_map.mpr ⟨t', ht', this.symm⟩)
  exact l T ok.nod fun _ h => h
theorem worths_pair {T : Tab} (ok : TabOk T) : ∀ z ∈ worths T, PairK z.1 := fun z hz => by
  obtain ⟨t, ht, e, he, _, rfl⟩ := mem_worths hz
  exact ⟨t.1, e.1, rfl, ok.nm t ht, ((ok.row t ht).2.1 e he).1⟩
end Tb

set_option Elab.async false
set_option linter.all false
set_option maxRecDepth 100000
set_option maxHeartbeats 4000000
/-! Signs of own instances: a def of the class that keeps a promise, asked by a sign. -/
namespace Own
open PySem PySem.Spec PyProof.Rows L2
/-- the method m of the class at C: its def at f keeps sp -/
structure Mt (P : Program) (w : World) (K : PySem.W.Frag) (mg : Str → Option Value) (base : Heap) (C : Addr) (m : Str) (k : Nat) (ps : List Str) (sp : Sp) (f : Addr) (fd : FuncData) : Prop where
  at_ : PySem.W.findIn K (.ref C) m = some (some (.ref f))
  fn : PySem.W.isFn K (.ref f) = true
  ok : FnOk P w K mg base CX0 k f fd ps sp
  b : Binds K fd ps []
section
variable {X : Cx} {pins : List (Addr × Obj)} {σ : L2.St} {H : Hp} {s : Shared} {C f : Addr} {fd : FuncData} {k : Nat} {ps : List Str} {sp : Sp} {m : Str}
/-- the call of a def within the builtins that the frame runs -/
theorem run_at {A' : Around} {vs : List V} {us : List Value} {Q : VK} (F : FnOk X.prog X.w X.K X.mg X.base CX0 k f fd ps sp) (b : Binds X.K fd ps []) (frames : A'.frames = X.A.frames) (hr : Room k A') (I : Inv X pins σ H s) (r : Vals vs us) (h : sp vs H Q E0) :
    wpAny (model X.prog X.w) A' (call (.ref f) us) (EP X pins σ Q) X.xe s := by
  have e := I.env0
  have n : (us ++ []).length = ps.length := by rw [List.append_nil, ← r.length]; exact F.len _ _ _ _ h
  refine wpAny_call (codeAny_mono (F.run A' X.stack s H ⟨us, []⟩ (us ++ []) vs Q E0 hr ⟨frames.trans e.frames, e.mod, e.bs, e.bsz, e.funs, e.frf, e.hok, e.bare⟩ (b s us I.kIn n) (by rw [List.append_nil]; exact r) h) fun r s' q => ?_)
  cases r with
  | error e => exact (show False from q).elim
  | ok fl =>
    cases fl with
    | ret u => exact I.after q
    | next => exact (show False from q).elim
    | brk => exact (show False from q).elim
    | cont => exact (show False from q).elim
theorem ins_at {a dx : Addr} {fs : List (Str × V)} (I : Inv X pins σ H s) (e : H a = some (.ins C dx fs)) : ∃ ox od, PySem.W.InstAt s.heap a ox C od := by
  obtain ⟨mA, O, _⟩ := ins_get I.hok e
  obtain ⟨od, J, _⟩ := O.look
  exact ⟨_, _, J⟩
theorem not_ni {v : V} {u : Value} (r : RelV v u) : u ≠ .notImplemented := by
  rintro rfl
  cases v with
  | non => cases (show Value.notImplemented = Value.none from r)
  | bl b => cases (show Value.notImplemented = Value.bool b from r)
  | int i => obtain ⟨t, e⟩ := (show ∃ t, Value.notImplemented = Value.int i t from r); cases e
  | str i => obtain ⟨t, e⟩ := (show ∃ t, Value.notImplemented = Value.str i t from r); cases e
  | byt i => obtain ⟨t, e⟩ := (show ∃ t, Value.notImplemented = Value.bytes i t from r); cases e
  | flt i => obtain ⟨t, e⟩ := (show ∃ t, Value.notImplemented = Value.float i t from r); cases e
  | ref i => cases (show Value.notImplemented = Value.ref i from r)
  | ty i => cases (show Value.notImplemented = Value.type i from r)
theorem cmp_back {Q : VK} {u : Value} {s' : Shared} (h : EP X pins σ Q u s') : PySem.W.CmpBack (EP X pins σ Q) u s' := by
  obtain ⟨v, H', I', r, q⟩ := h
  have n := not_ni r
  cases u <;> first | exact absurd rfl n | exact ⟨v, H', I', r, q⟩
/-- an instance of the class at C -/
def Ins (H : Hp) (x : V) (C : Addr) : Prop := ∃ a dx fs, x = .ref a ∧ H a = some (.ins C dx fs)
/-- x op y, both of the class -/
def rOwn (C : Addr) (sp : Sp) : R2 := fun x y H Q => Ins H x C ∧ Ins H y C ∧ sp [x, y] H Q E0
theorem op_own {op : Operator} (M : Mt X.prog X.w X.K X.mg X.base C (PySem.dunder op.info.2) k ps sp f fd) (first : PySem.W.selfFirst X.K C = true) (hr : Room k X.A) : OpR X (binaryOp op) (rOwn C sp) := by
  intro pins s σ H x y v u Q I rx ry h
  obtain ⟨⟨a, dx, fs, rfl, ha⟩, ⟨b, dy, gs, rfl, hb⟩, h⟩ := h
  cases rx
  cases ry
  obtain ⟨ox, od, J⟩ := ins_at I ha
  obtain ⟨oy, oe, L⟩ := ins_at I hb
  obtain ⟨m, fr⟩ := I.fr
  exact PySem.W.binop_K fr I.ok.mod.kin J L.type first M.at_ M.fn (wpAny_mono (run_at M.ok M.b rfl hr I (.cons (show RelV (V.ref a) (Value.ref a) from rfl) (.cons (show RelV (V.ref b) (Value.ref b) from rfl) .nil)) h) (fun _ _ z => cmp_back z) fun _ _ z => z)
/-- x op y, a comparison that is no identity: y's type is told by t -/
def rCmpOwn (K : PySem.W.Frag) (C : Addr) (sp : Sp) : R2 := fun x y H Q => Ins H x C ∧ Ins H y C ∧ sp [x, y] H Q E0
theorem cmp_own {op : CmpOp} (M : Mt X.prog X.w X.K X.mg X.base C (cmpInfo op).2.1 k ps sp f fd) (hr : Room k X.A) (hop : ∀ a b : Value, compareOp op a b = richCompare op a b := by intro _ _; rfl) : OpR X (compareOp op) (rCmpOwn X.K C sp) := by
  intro pins s σ H x y v u Q I rx ry h
  obtain ⟨⟨a, dx, fs, rfl, ha⟩, ⟨b, dy, gs, rfl, hb⟩, h⟩ := h
  cases rx
  cases ry
  obtain ⟨ox, od, J⟩ := ins_at I ha
  obtain ⟨oy, oe, L⟩ := ins_at I hb
  obtain ⟨m, fr⟩ := I.fr
  rw [hop]
  exact PySem.W.cmp_K (tb := .ref C) (by have := hr.un; omega) fr I.ok.mod.kin J L.type (by unfold PySem.W.notFirst; simp) M.at_ M.fn (wpAny_mono (run_at M.ok M.b rfl hr I (.cons (show RelV (V.ref a) (Value.ref a) from rfl) (.cons (show RelV (V.ref b) (Value.ref b) from rfl) .nil)) h) (fun _ _ z => cmp_back z) fun _ _ z => z)
/-- y in x, by the class's own def, which answers True or False -/
def rInOwn (neg : Bool) (C : Addr) (sp : Sp) : R2 := fun y x H Q => Ins H x C ∧ sp [x, y] H (fun v H' => ∃ b, v = .bl b ∧ Q (.bl (if neg then !b else b)) H') E0
theorem in_own (M : Mt X.prog X.w X.K X.mg X.base C "__contains__" k ps sp f fd) (hr : Room k X.A) : OpR X (compareOp .In) (rInOwn false C sp) := by
  intro pins s σ H y x v u Q I ry rx h
  obtain ⟨⟨a, dx, fs, rfl, ha⟩, h⟩ := h
  cases rx
  obtain ⟨ox, od, J⟩ := ins_at I ha
  obtain ⟨m, fr⟩ := I.fr
  refine PySem.W.in_K fr I.ok.mod.kin J M.at_ M.fn (wpAny_mono (run_at M.ok M.b rfl hr I (.cons (show RelV (V.ref a) (Value.ref a) from rfl) (.cons ry .nil)) h) (fun r s' z => ?_) fun _ _ z => z)
  obtain ⟨v', H', I', rv, b, rfl, q⟩ := z
  obtain rfl : r = Value.bool b := rv
  exact wpAny_truthy_bool ⟨.bl b, _, I', rfl, q⟩
theorem notIn_own (M : Mt X.prog X.w X.K X.mg X.base C "__contains__" k ps sp f fd) (hr : Room k X.A) : OpR X (compareOp .NotIn) (rInOwn true C sp) := by
  intro pins s σ H y x v u Q I ry rx h
  obtain ⟨⟨a, dx, fs, rfl, ha⟩, h⟩ := h
  cases rx
  obtain ⟨ox, od, J⟩ := ins_at I ha
  obtain ⟨m, fr⟩ := I.fr
  refine PySem.W.notIn_K fr I.ok.mod.kin J M.at_ M.fn (wpAny_mono (run_at M.ok M.b rfl hr I (.cons (show RelV (V.ref a) (Value.ref a) from rfl) (.cons ry .nil)) h) (fun r s' z => ?_) fun _ _ z => z)
  obtain ⟨v', H', I', rv, b, rfl, q⟩ := z
  obtain rfl : r = Value.bool b := rv
  exact wpAny_truthy_bool ⟨.bl (!b), _, I', rfl, q⟩
/-- x[y] by the class's own def -/
def rIxOwn (C : Addr) (sp : Sp) : R2 := fun x y H Q => Ins H x C ∧ sp [x, y] H Q E0
theorem ix_own (M : Mt X.prog X.w X.K X.mg X.base C "__getitem__" k ps sp f fd) (fi : PySem.W.fnIn X.K f = true) (hr : Room (k + 1) X.A)
    (hsl : ∀ (slice : Expr) (v u : Value), subscripted slice true v u = runValue (.builtin "lifetime.subscript" ⟨[v, u], []⟩) := by intro _ _ _; with_unfolding_all rfl) : IxR X (rIxOwn C sp) := by
  intro value slice pins s σ H x y v u Q I rx ry h hs
  obtain ⟨⟨a, dx, fs, rfl, ha⟩, h⟩ := h
  cases rx
  obtain ⟨ox, od, J⟩ := ins_at I ha
  obtain ⟨m, fr⟩ := I.fr
  exact PySem.W.sub_K fr I.ok.mod.kin J M.at_ fi M.fn (run_at M.ok M.b rfl hr.in1 I (.cons (show RelV (V.ref a) (Value.ref a) from rfl) (.cons ry .nil)) h) (hsl _ _ _)
/-- len(x) by the class's own def -/
def rLenOwn (C : Addr) (sp : Sp) : List V → Hp → VK → Prop := fun xs H Q => ∃ x, xs = [x] ∧ Ins H x C ∧ sp [x] H (fun v H' => ∃ n : Nat, v = .int n ∧ n < 1000000 ∧ Q (.int n) H') E0
theorem call_lenOwn (M : Mt X.prog X.w X.K X.mg X.base C "__len__" k ps sp f fd) (hr : Room (k + 1) X.A) : CallR X (.builtin "len") (rLenOwn C sp) := by
  intro pins s σ H xs us Q I r h
  obtain ⟨_, rfl, ⟨a, dx, fs, rfl, ha⟩, h⟩ := h
  obtain ⟨u, rfl, ru⟩ := vals1 r
  cases ru
  obtain ⟨ox, od, J⟩ := ins_at I ha
  obtain ⟨m, fr⟩ := I.fr
  refine PySem.W.len_K fr I.ok.mod.kin J M.at_ M.fn (wpAny_mono (run_at M.ok M.b rfl hr.in1 I (.cons (show RelV (V.ref a) (Value.ref a) from rfl) .nil) h) (fun r s' z => ?_) fun _ _ z => z)
  obtain ⟨v', H', I', rv, n, rfl, hn, q⟩ := z
  obtain ⟨t, rfl⟩ := rv
  exact ⟨⟨by omega, by omega⟩, .int n, H', I'.tok _, ⟨_, rfl⟩, q⟩
/-- str(x) by the class's own def -/
def rStrOwn (C : Addr) (sp : Sp) : List V → Hp → VK → Prop := fun xs H Q => ∃ x, xs = [x] ∧ Ins H x C ∧ sp [x] H (fun v H' => ∃ z : Str, v = .str z ∧ Q (.str z) H') E0
theorem call_strOwn (M : Mt X.prog X.w X.K X.mg X.base C "__str__" k ps sp f fd) (hr : Room (k + 2) X.A) : CallR X (.type "str") (rStrOwn C sp) := by
  intro pins s σ H xs us Q I r h
  obtain ⟨_, rfl, ⟨a, dx, fs, rfl, ha⟩, h⟩ := h
  obtain ⟨u, rfl, ru⟩ := vals1 r
  cases ru
  obtain ⟨ox, od, J⟩ := ins_at I ha
  refine PySem.W.kso_call (by have := hr.un; show X.A.units + 1 + 1 < cLine; omega) I.kIn J M.at_ M.fn (wpAny_mono (run_at M.ok M.b rfl hr.in1.in1 I (.cons (show RelV (V.ref a) (Value.ref a) from rfl) .nil) h) (fun r s' z => ?_) fun _ _ z => z)
  obtain ⟨v', H', I', rv, t, rfl, q⟩ := z
  obtain ⟨u, rfl⟩ := rv
  exact ⟨.str t, H', I', ⟨_, rfl⟩, q⟩
/-- ~x by the class's own def -/
theorem un_own (M : Mt X.prog X.w X.K X.mg X.base C "__invert__" k ps sp f fd) (hr : Room k X.A) : UnR X (unaryOp .Invert) (fun x H Q => Ins H x C ∧ sp [x] H Q E0) := by
  intro pins s σ H x v Q I rx h
  obtain ⟨⟨a, dx, fs, rfl, ha⟩, h⟩ := h
  cases rx
  obtain ⟨ox, od, J⟩ := ins_at I ha
  obtain ⟨m, fr⟩ := I.fr
  exact PySem.W.ksp_inv fr I.ok.mod.kin J M.at_ M.fn (run_at M.ok M.b rfl hr I (.cons (show RelV (V.ref a) (Value.ref a) from rfl) .nil) h)
end
end Own

set_option Elab.async false
set_option linter.all false
set_option maxRecDepth 100000
set_option maxHeartbeats 4000000
/-! The truth of an own instance by its __len__. -/
namespace Own
open PySem PySem.Spec PyProof.Rows L2
section
variable {X : Cx} {C f : Addr} {fd : FuncData} {k : Nat} {ps : List Str} {sp : Sp}
def rTruOwn (C : Addr) (sp : Sp) : V → Hp → (Bool → Hp → Prop) → Prop := fun x H Q => Ins H x C ∧ sp [x] H (fun v H' => ∃ n : Nat, v = .int n ∧ n < 1000000 ∧ Q ((n : Int) != 0) H') E0
theorem tru_own (hb : PySem.W.findIn X.K (.ref C) "__bool__" = some none) (M : Mt X.prog X.w X.K X.mg X.base C "__len__" k ps sp f fd) (hr : Room (k + 1) X.A) : TruR X (rTruOwn C sp) := by
  intro pins s σ H x v Q I rx h
  obtain ⟨⟨a, dx, fs, rfl, ha⟩, h⟩ := h
  cases rx
  obtain ⟨ox, od, J⟩ := ins_at I ha
  unfold truthy
  refine wpAny_bind (m := callSpecial? (.ref a) (Str.ofString "__bool__")) (wpAny_bind (wpAny_bind (J.type.here ((PySem.W.looks_findIn I.kIn hb).here (wpAny_pure ?_)))))
  refine wpAny_bind (wpAny_bind (J.type.here ((PySem.W.looks_findIn I.kIn M.at_).here ?_)))
  show wpAny _ _ (runValue (.builtin "len" ⟨[.ref a], []⟩) >>= _) _ _ _
  refine wpAny_bind (wpAny_runValue (codeAny_builtin PySem.entry_len ?_))
  rw [Around.under_plainId PySem.plain_len _]
  unfold Builtin.«len»
  refine wpAny_bind (m := oneArg "len" _) (wpAny_pure ?_)
  refine wpAny_bind (m := callSpecial? (.ref a) (Str.ofString "__len__")) (PySem.W.special_fn I.kIn J M.at_ (beq_iff_eq.mp M.fn) (wpAny_mono (run_at M.ok M.b rfl hr.in1 I (.cons (show RelV (V.ref a) (Value.ref a) from rfl) .nil) h) (fun r s' z => ?_) fun _ _ z => z))
  obtain ⟨v', H', I', rv, n, rfl, hn, q⟩ := z
  obtain ⟨t, rfl⟩ := rv
  refine wpAny_bind (wpAny_holding (wpAny_pure ?_))
  refine wpAny_bind (wpAny_letGo ?_)
  show wpAny _ _ (if (n : Int) < 0 then _ else _) _ _ _
  rw [if_neg (by omega)]
  show wpAny _ _ (if (n : Int) ≥ 2 ^ 63 then _ else _) _ _ _
  rw [if_neg (by omega)]
  refine wpAny_bind (wpAny_mkInt (wpAny_pure ?_))
  exact wpAny_pure ⟨H', I'.tok _, q⟩
end
end Own

set_option Elab.async false
set_option linter.all false
set_option maxRecDepth 100000
set_option maxHeartbeats 4000000
/-! x != y of own instances, where the class has __eq__ and no __ne__. -/
namespace Own
open PySem PySem.Spec PySem.Calls PyProof.Rows PySem.W L2
section
variable {X : Cx} {C f : Addr} {fd : FuncData} {k : Nat} {ps : List Str} {sp : Sp}
theorem ifBound_b {M : Model} {A : Around} {E : Value → Shared → Prop} {s : Shared} {K : Frag} {x C : Addr} {ox : Obj} {od : Option Obj} {name : Str} {id : String} {args : List Value} {Q : Option Value → Shared → Prop} (kin : K.In s.heap) (J : InstAt s.heap x ox C od)
    (hs : findIn K (.ref C) name = some (some (.builtin id))) (hb : ∀ self, bindSpecial (.builtin id) self = pure (.builtin id, [self])) (h : wpAny M A (call (.builtin id) (.ref x :: args)) (fun v => Q (some v)) E s) : wpAny M A (callSpecialIfBound? (.ref x) name args) Q E s := by
  simp only [callSpecialIfBound?, bindSpecialIfBound?]
  refine wpAny_holding (wpAny_bind (wpAny_bind (wpAny_bind (J.type.here ((looks_findIn kin hs).here ?_)))))
  refine wpAny_bind (wpAny_askSetting (wpAny_ite ?_))
  have fin : wpAny M A (call (.builtin id) ([.ref x] ++ args) >>= fun v => pure (some v)) Q E s := wpAny_bind (wpAny_mono h (fun v s' y => wpAny_pure y) fun _ _ y => y)
  split
  · exact wpAny_bind ((Looks.of_pure (hb _)).here (wpAny_pure (by exact fin)))
  · exact wpAny_tryCatch (wpAny_bind ((Looks.of_pure (hb _)).here (wpAny_pure (by exact fin))))
/-- x != y: the class's __eq__, turned about -/
def rNeOwn (C : Addr) (sp : Sp) : R2 := fun x y H Q => Ins H x C ∧ Ins H y C ∧ sp [x, y] H (fun v H' => ∃ b, v = .bl b ∧ Q (.bl (!b)) H') E0
open Builtin in
theorem ne_own (M : Mt X.prog X.w X.K X.mg X.base C "__eq__" k ps sp f fd) (hne : findIn X.K (.ref C) "__ne__" = some (some (.builtin "object.__ne__"))) (hm : mroIn X.K C (.type "object") = some true) (hr : Room (k + 1) X.A) : OpR X (compareOp .NotEq) (rNeOwn C sp) := by
  intro pins s σ H x y v u Q I rx ry h
  obtain ⟨⟨a, dx, fs, rfl, ha⟩, ⟨b, dy, gs, rfl, hb⟩, h⟩ := h
  cases rx
  cases ry
  obtain ⟨ox, od, J⟩ := ins_at I ha
  obtain ⟨oy, oe, L⟩ := ins_at I hb
  have hu : X.A.units < cLine := by have := hr.un; omega
  have hu1 : X.A.in1.units < cLine := by have := hr.in1.un; omega
  show wpAny _ _ (richCompare .NotEq (.ref a) (.ref b)) _ _ _
  have one : wpAny (model X.prog X.w) X.A (tryCompare (.ref a) (cmpInfo .NotEq).2.1 (.ref b)) (fun r s' => ∃ v, r = some v ∧ EP X pins σ Q v s') X.xe s := by
    unfold tryCompare
    refine wpAny_bind (m := callSpecialIfBound? (.ref a) (Str.ofString "__ne__") [.ref b]) (ifBound_b I.kIn J hne PySem.F.slot_object_ne.bind ?_)
    refine wpAny_call (codeAny_call_builtin PySem.F.slot_object_ne.plain PySem.F.entry_object_ne (check_slot (i := "object.__ne__") (owner := "object") (n := "__ne__") (by decide +kernel) (by decide +kernel) (J.type.andThen (looks_mroIn I.kIn hm)) (PySem.F.args_object_ne_2 _ _) ?_))
    unfold Builtin.«object.__ne__»
    refine wpAny_bind (m := slotArgs "__ne__" 1 _) (wpAny_pure ?_)
    refine wpAny_bind (m := cRoomFor _ _) (wpAny_cRoomFor hu1 ?_)
    refine wpAny_bind (m := callSpecialIfBound? (.ref a) (Str.ofString "__eq__") [.ref b]) (ifBound_K I.kIn J M.at_ M.fn (wpAny_mono (run_at M.ok M.b rfl hr.in1 I (.cons (show RelV (V.ref a) (Value.ref a) from rfl) (.cons (show RelV (V.ref b) (Value.ref b) from rfl) .nil)) h) (fun r s' z => ?_) fun _ _ z => z))
    obtain ⟨v', H', I', rv, c, rfl, q⟩ := z
    obtain rfl : r = Value.bool c := rv
    refine wpAny_bind (wpAny_truthy_bool (wpAny_pure ?_))
    exact wpAny_pure ⟨_, rfl, .bl (!c), H', I', rfl, q⟩
  unfold richCompare
  simp only [oneThing_ref]
  refine wpAny_holding (wpAny_bind (wpAny_cRoomFor hu ?_))
  refine wpAny_bind (J.type.here (wpAny_bind (L.type.here ?_)))
  have same : ((Value.ref C) != (Value.ref C)) = false := by simp
  rw [same]
  refine wpAny_bind (wpAny_pure ?_)
  simp only [Bool.false_eq_true, if_false]
  refine wpAny_bind (wpAny_mono one (fun r s' z => ?_) fun _ _ e => e)
  obtain ⟨v, rfl, hq⟩ := z
  exact wpAny_pure hq
end
end Own

set_option Elab.async false
set_option linter.all false
set_option maxRecDepth 100000
set_option maxHeartbeats 4000000
/-! bool(x) of an own instance. -/
namespace Own
open PySem PySem.Spec PyProof.Rows L2
section
variable {X : Cx} {pins : List (Addr × Obj)} {σ : L2.St} {H : Hp} {s : Shared} {C f : Addr} {fd : FuncData} {k : Nat} {ps : List Str} {sp : Sp}
/-- the truth within the builtins that the frame runs -/
theorem tru_at {A' : Around} {a : Addr} {Q : Bool → Hp → Prop} (hb : PySem.W.findIn X.K (.ref C) "__bool__" = some none) (M : Mt X.prog X.w X.K X.mg X.base C "__len__" k ps sp f fd) (frames : A'.frames = X.A.frames) (hr : Room (k + 1) A') (I : Inv X pins σ H s)
    (h : rTruOwn C sp (.ref a) H Q) : wpAny (model X.prog X.w) A' (truthy (.ref a)) (TP X pins σ Q) X.xe s := by
  obtain ⟨⟨_, dx, fs, e, ha⟩, h⟩ := h
  cases e
  obtain ⟨ox, od, J⟩ := ins_at I ha
  unfold truthy
  refine wpAny_bind (m := callSpecial? (.ref a) (Str.ofString "__bool__")) (wpAny_bind (wpAny_bind (J.type.here ((PySem.W.looks_findIn I.kIn hb).here (wpAny_pure ?_)))))
  refine wpAny_bind (wpAny_bind (J.type.here ((PySem.W.looks_findIn I.kIn M.at_).here ?_)))
  show wpAny _ _ (runValue (.builtin "len" ⟨[.ref a], []⟩) >>= _) _ _ _
  refine wpAny_bind (wpAny_runValue (codeAny_builtin PySem.entry_len ?_))
  rw [Around.under_plainId PySem.plain_len _]
  unfold Builtin.«len»
  refine wpAny_bind (m := oneArg "len" _) (wpAny_pure ?_)
  refine wpAny_bind (m := callSpecial? (.ref a) (Str.ofString "__len__")) (PySem.W.special_fn I.kIn J M.at_ (beq_iff_eq.mp M.fn) (wpAny_mono (run_at M.ok M.b frames hr.in1 I (.cons (show RelV (V.ref a) (Value.ref a) from rfl) .nil) h) (fun r s' z => ?_) fun _ _ z => z))
  obtain ⟨v', H', I', rv, n, rfl, hn, q⟩ := z
  obtain ⟨t, rfl⟩ := rv
  refine wpAny_bind (wpAny_holding (wpAny_pure ?_))
  refine wpAny_bind (wpAny_letGo ?_)
  show wpAny _ _ (if (n : Int) < 0 then _ else _) _ _ _
  rw [if_neg (by omega)]
  show wpAny _ _ (if (n : Int) ≥ 2 ^ 63 then _ else _) _ _ _
  rw [if_neg (by omega)]
  refine wpAny_bind (wpAny_mkInt (wpAny_pure ?_))
  exact wpAny_pure ⟨H', I'.tok _, q⟩
theorem call_boolOwn (hb : PySem.W.findIn X.K (.ref C) "__bool__" = some none) (M : Mt X.prog X.w X.K X.mg X.base C "__len__" k ps sp f fd) (hr : Room (k + 3) X.A) : CallR X (.type "bool") (fun xs H Q => ∃ a, xs = [.ref a] ∧ rTruOwn C sp (.ref a) H fun b H' => Q (.bl b) H') := by
  intro pins s σ H xs us Q I r h
  obtain ⟨a, rfl, h⟩ := h
  obtain rfl := Vals.ref1 r
  refine callType_codes (Q₁ := fun obj s1 => ∃ b, obj = Value.bool b ∧ TP X pins σ (fun b H' => Q (.bl b) H') b s1) F.called_bool (F.typeCall_bool_1 _) F.entry_object_init ?_ fun obj s1 z => ?_
  · refine codeAny_call_builtin F.called_bool.plain F.entry_bool_new (wpAny_of_eq (F.newCall_bool_1 _) ?_)
    unfold Builtin.«bool.__new__»
    have f1 := F.conv_sub_bool
    show wpAny _ _ (isType (Value.type "bool") >>= _) _ _ _
    refine wpAny_bind (wpAny_of_eq (show isType (Value.type "bool") = pure true from by kernel_rfl) ?_)
    dsimp only
    rw [if_neg (by decide)]
    refine wpAny_bind (wpAny_of_eq f1 ?_)
    rw [if_neg (by decide)]
    refine wpAny_bind (wpAny_of_eq (show someArgs "bool" 0 1 { pos := [Value.ref a] } = pure [Value.ref a] from by rfl) ?_)
    dsimp only
    refine wpAny_bind (wpAny_mono (tru_at (A' := X.A.in1.in1) hb M rfl hr.in1.in1 I h) (fun b s1 z => ?_) fun _ _ z => z)
    exact wpAny_pure ⟨b, rfl, z⟩
  · obtain ⟨b, rfl, H', I', q⟩ := z
    refine ⟨rfl, F.args_object_init_2 _ _, ?_⟩
    exact (object_init_meets F.called_bool.init.lookup F.called_bool.made F.newNe_bool) _ _ _ _ s1 ⟨rfl, rfl, .bl b, H', I', rfl, q⟩
end
end Own

set_option Elab.async false
set_option linter.all false
set_option maxRecDepth 100000
set_option maxHeartbeats 4000000
/-! x[y] of an own instance. -/
namespace Own
open PySem PySem.Spec PyProof.Rows L2
/-- x[y], y no slice -/
theorem pe_ixOwn {X : Cx} {C f : Addr} {fd : FuncData} {k : Nat} {ps : List Str} {sp : Sp} {a b : Expr} {ta tb : TE} {pos : Pos} (M : Mt X.prog X.w X.K X.mg X.base C "__getitem__" k ps sp f fd) (fi : PySem.W.fnIn X.K f = true) (hr : Room (k + 1) X.A) (ha : PE X a ta) (hb : PE X b tb)
    (hsl : ∀ v u : Value, subscripted b true v u = runValue (.builtin "lifetime.subscript" ⟨[v, u], []⟩) := by intro _ _; rfl) : PE X (.Subscript a b pos) (tOp (rIxOwn C sp) ta tb) := by
  refine ⟨fun pins s σ H Q I h => ?_⟩
  refine Subscript_ (binT ha hb I h fun v u s2 x y H2 I2 rx ry q => ?_)
  obtain ⟨⟨z, dx, fs, rfl, hz⟩, h⟩ := q
  cases rx
  obtain ⟨ox, od, J⟩ := ins_at I2 hz
  obtain ⟨m, fr⟩ := I2.fr
  exact PySem.W.sub_K fr I2.ok.mod.kin J M.at_ fi M.fn (run_at M.ok M.b rfl hr.in1 I2 (.cons (show RelV (V.ref z) (Value.ref z) from rfl) (.cons ry .nil)) h) (hsl _ _)
end Own

set_option Elab.async false
set_option linter.all false
set_option maxRecDepth 100000
set_option maxHeartbeats 4000000
/-! Table's signs: [ ], <=, <, >=, >. -/
namespace Tb
open PySem PySem.Spec PyProof.Rows L2 EvP Cm Fk DtE KyS XG
/-- what a table holds at a key -/
def wk (r : TRow) (k : List Key) : Int := (lookT r k).getD 0
/-- no worth of r is above that of r' -/
def leT (r r' : TRow) : Bool := (r.map (·.1)).all fun k => decide (wk r k ≤ wk r' k)
theorem tbl_ins {C : Addr} {H : Hp} {x : Addr} {ss xs : List Str} {r : TRow} (h : TblAt C H x ss xs r) : Own.Ins H (.ref x) C := by
  obtain ⟨dx, n1, n2, dw, p, prs, h1, _⟩ := h
  exact ⟨x, dx, _, rfl, h1⟩
/-- the class, asked of its own instances -/
structure TblI (K : PySem.W.Frag) (C : Addr) : Prop where
  ha : PySem.W.findIn K (.ref C) "__class__" = some (some (.builtin "object.__class__"))
  hn : PySem.W.specialIn K (.builtin "object.__class__") "__get__" = some (some (.builtin "getset_descriptor.__get__"))
  htk : PySem.W.takesIn K (.builtin "object.__class__") = some true
  hm : PySem.W.mroIn K C (.type "object") = some true
/-- a table's worths have pairs of names for keys -/
def RowOk (r : TRow) : Prop := ∀ t ∈ r, PairK t.1
def spTItem (C : Addr) : Sp := fun vs H Q _ => ∃ (x p : Addr) (ss xs : List Str) (r : TRow) (k : List Key), vs = [.ref x, .ref p] ∧ TblAt C H x ss xs r ∧ H p = some (.tup (k.map kV)) ∧ PairK k ∧ Q (.int (wk r k)) H
def spTOther (C : Addr) : Sp := fun vs H Q _ => ∃ (x : Addr) (ss xs : List Str) (r : TRow), vs = [.ref x] ∧ TblAt C H x ss xs r ∧ Q .non H
/-- two tables -/
def spTwo (C : Addr) (f : TRow → TRow → Bool) : Sp := fun vs H Q _ => ∃ (x y : Addr) (ss xs ss' xs' : List Str) (r r' : TRow), vs = [.ref x, .ref y] ∧ TblAt C H x ss xs r ∧ TblAt C H y ss' xs' r' ∧ RowOk r ∧ RowOk r' ∧ r.length ≤ 100 ∧ r'.length ≤ 100 ∧ ∀ H', Ex H H' → Q (.bl (f r r')) H'
abbrev sTItem : Stmt := tmeth 4
abbrev sTLe : Stmt := tmeth 15
abbrev sTLt : Stmt := tmeth 16
abbrev sTGe : Stmt := tmeth 17
abbrev sTGt : Stmt := tmeth 18
abbrev sTOther : Stmt := top 36
abbrev NL : List Str := ["self", "other", "pair"]
theorem scTItem : FnScope ["self", "at"] ["self", "at"] (defScope sTItem) := ⟨rfl, rfl, rfl, by decide +kernel, rfl, by decide +kernel, by decide +kernel⟩
theorem scTOther : FnScope ["other"] ["other"] (defScope sTOther) := ⟨rfl, rfl, rfl, by decide +kernel, rfl, by decide +kernel, by decide +kernel⟩
theorem scTLe : FnScope NL ["self", "other"] (defScope sTLe) := ⟨rfl, rfl, rfl, by decide +kernel, rfl, by decide +kernel, by decide +kernel⟩
theorem scTLt : FnScope ["self", "other"] ["self", "other"] (defScope sTLt) := ⟨rfl, rfl, rfl, by decide +kernel, rfl, by decide +kernel, by decide +kernel⟩
theorem scTGe : FnScope ["self", "other"] ["self", "other"] (defScope sTGe) := ⟨rfl, rfl, rfl, by decide +kernel, rfl, by decide +kernel, by decide +kernel⟩
theorem scTGt : FnScope ["self", "other"] ["self", "other"] (defScope sTGt) := ⟨rfl, rfl, rfl, by decide +kernel, rfl, by decide +kernel, by decide +kernel⟩
/-- a key from what its tuple holds -/
def unK (ys : List V) : List Key := ys.map fun v => match v with
  | .str x => Sum.inr x
  | .int i => Sum.inl i
  | _ => Sum.inl 0
theorem unK_kV (k : List Key) : unK (k.map kV) = k := by
  unfold unK
  rw [List.map_map]
  have : ∀ y ∈ k, ((fun v : V => match v with
    | .str x => (Sum.inr x : Key)
    | .int i => Sum.inl i
    | _ => Sum.inl 0) ∘ kV) y = y := fun y _ => by cases y <;> rfl
  exact (List.map_congr_left this).trans (List.map_id k)
def byH (H : Hp) (g : List Key → V) : V → V
  | .ref b => match H b with
    | some (.tup ys) => g (unK ys)
    | _ => .non
  | _ => .non
theorem byH_of {H : Hp} {g : List Key → V} {b : Addr} {k : List Key} (h : H b = some (.tup (k.map kV))) : byH H g (.ref b) = g k := by
  show (match H b with
    | some (.tup ys) => g (unK ys)
    | _ => .non) = _
  rw [h]
  show g (unK (k.map kV)) = _
  rw [unK_kV]
theorem byH_all {H : Hp} {g : List Key → V} : ∀ {ks : List (List Key)} {prs : List V}, All2 H (ks.map fun k => tupV (k.map kV)) prs → prs.map (byH H g) = ks.map g
  | [], _, .nil => rfl
  | k :: ks, _, .cons ⟨a, ev, ha⟩ t => by
    subst ev
    rw [List.map_cons, List.map_cons, byH_of ha, byH_all t]
theorem all2_in {H : Hp} : ∀ {ks : List (List Key)} {prs : List V}, All2 H (ks.map fun k => tupV (k.map kV)) prs → ∀ v ∈ prs, ∃ k ∈ ks, ∃ b, v = .ref b ∧ H b = some (.tup (k.map kV))
  | [], _, .nil, v, h => by cases h
  | k :: ks, _, .cons ⟨a, ev, ha⟩ t, v, h => by
    rcases List.mem_cons.mp h with rfl | h
    · exact ⟨k, .head _, a, ev, ha⟩
    · obtain ⟨k', h1, h2⟩ := all2_in t v h
      exact ⟨k', .tail _ h1, h2⟩
section
variable {P : Program} {w : World} {K : PySem.W.Frag} {mg : Str → Option Value} {base : Heap} {C f fN fI : Addr} {fd fdN fdI : FuncData} {σ : L2.St} {H : Hp}
theorem ok_titem (F : Fun K "__getitem__" "Table.__getitem__" sTItem f fd) (S : TblC K C) (G : FnOk P w K mg base CX0 2 fN fdN ["value"] (spPair K)) (b : Binds K fdN ["value"] []) (gN : mg "is_pair" = some (.ref fN)) (kN : PySem.W.keepIn K (.ref fN) = true) :
    FnOk P w K mg base CX0 3 f fd ["self", "at"] (spTItem C) := by
  refine F.ok scTItem (fun vs H Q E h => ?_) (fun cdv A outer s H vs Q E hr h => ?_)
  · obtain ⟨x, p, ss, xs, r, k, rfl, _⟩ := h
    rfl
  · obtain ⟨x, p, ss, xs, r, k, rfl, ⟨dx, n1, n2, dw, pp, prs, h1, h2, h3, h4, h5, h6⟩, hp, pk, q⟩ := h
    refine ⟨_, pss_cons (ps_if (pt_not (pt_val (pe_call G hr (by rfl) gN kN b .nil pass0 (pa_cons (pv 1) pa_nil)))) (pss_one ps_dead) pss_nil)
      (pss_one (ps_ret (pe_dget2 (hu_of hr) (pe_fld (pv 0) rfl) (pv 1) pe_int ⟨rfl, rfl, rfl, rfl⟩))), ?_⟩
    obtain ⟨a, y, rfl, na, ny⟩ := pk
    refine ⟨_, rfl, p, a, y, rfl, hp, na, ny, _, rfl, ?_⟩
    refine ⟨_, rfl, x, C, dx, _, _, rfl, h1, S.cl, S.nW, rfl, dw, rfl, .inr ⟨_, .inl h4⟩, _, rfl, _, DGet.t h4 hp, ?_⟩
    rw [valV_tents]
    unfold wk at q
    cases hl : lookT r (key2 a y) with
    | none =>
      rw [hl] at q
      exact q
    | some m =>
      rw [hl] at q
      exact q
theorem ok_tother (F : Fun K "check_other" "check_other" sTOther f fd) (S : TblC K C) (SI : TblI K C) (T : Blt mg) (gS : mg "Table" = some (.ref C)) : FnOk P w K mg base CX0 1 f fd ["other"] (spTOther C) := by
  refine F.ok scTOther (fun vs H Q E h => ?_) (fun cdv A outer s H vs Q E hr h => ?_)
  · obtain ⟨x, ss, xs, r, rfl, _⟩ := h
    rfl
  · obtain ⟨x, ss, xs, r, rfl, ⟨dx, n1, n2, dw, pp, prs, h1, _⟩, q⟩ := h
    refine ⟨_, pss_one (ps_if (pt_not (pt_val (pe_callB call_isi (by rfl) T.isi (by decide +kernel) (pa_cons (pv 0) (pa_cons (pe_glob (v := .ref C) (by rfl) gS rfl) pa_nil))))) (pss_one ps_dead) pss_nil), ?_⟩
    exact ⟨_, rfl, _, _, _, _, true, rfl, .own C, .base (.ins h1 S.cl SI.ha SI.hn SI.htk SI.hm), (by
      unfold PySem.W.kitOne
      rw [if_pos (by simp)]), _, rfl, q⟩
theorem g_tix {i j : Nat} {x b : Addr} {ss xs : List Str} {r : TRow} {k : List Key} (hi : σ[i]? = some (some (.ref x))) (hj : σ[j]? = some (some (.ref b))) (sa : TblAt C H x ss xs r) (hb : H b = some (.tup (k.map kV))) (pk : PairK k) :
    EvP.Gives (tOp (Own.rIxOwn C (spTItem C)) (tVar i) (tVar j)) σ H (is (.int (wk r k))) := fun H1 e Q q =>
  ⟨_, hi, _, hj, tbl_ins (sa.mono e), x, b, ss, xs, r, k, rfl, sa.mono e, e _ _ hb, pk, q _ _ (Ex.refl H1) rfl⟩
theorem perm_all {α : Type} {l m : List α} (p : l.Perm m) (f : α → Bool) : l.all f = m.all f := by
  rw [Bool.eq_iff_iff, List.all_eq_true, List.all_eq_true]
  exact ⟨fun h x hx => h x (p.mem_iff.mpr hx), fun h x hx => h x (p.mem_iff.mp hx)⟩
theorem ok_tle (F : Fun K "__le__" "Table.__le__" sTLe f fd) (S : TblC K C) (M : Own.Mt P w K mg base C "__getitem__" 3 ["self", "at"] (spTItem C) fI fdI) (MF : PySem.W.fnIn K fI = true) (hA : mg "all" = none)
    (GO : FnOk P w K mg base CX0 1 fN fdN ["other"] (spTOther C)) (bO : Binds K fdN ["other"] []) (gO : mg "check_other" = some (.ref fN)) (kO : PySem.W.keepIn K (.ref fN) = true) : FnOk P w K mg base CX0 5 f fd ["self", "other"] (spTwo C leT) := by
  have nd := scTLe.nd
  refine F.ok scTLe (fun vs H Q E h => ?_) (fun cdv A outer s H vs Q E hr h => ?_)
  · obtain ⟨x, y, ss, xs, ss', xs', r, r', rfl, _⟩ := h
    rfl
  · obtain ⟨x, y, ss, xs, ss', xs', r, r', rfl, sa, sb, or1, or2, l1, l2, q⟩ := h
    refine ⟨_, pss_cons (ps_expr (pe_call GO (hr.mono (by decide)) (by rfl) gO kO bO .nil pass0 (pa_cons (pv 1) pa_nil)))
      (pss_one (ps_ret (pe_callB (cr_all rfl) (by rfl) hA (by decide +kernel) (pa_cons (pe_lc (own := [("pair", 2)]) (g := gName 2) (tt := tYes) (te := tOp (rI0 fun i j => .bl (decide (i ≤ j))) (tOp (Own.rIxOwn C (spTItem C)) (tVar 0) (tVar 2)) (tOp (Own.rIxOwn C (spTItem C)) (tVar 1) (tVar 2))) rfl nd (pi_tup (pe_fld (pv 0) rfl)) (blkOk_by (N := NL) (sc := defScope sTLe) (by decide +kernel))
        (fun _ _ _ _ _ => pg_name (i := 2) nd rfl (Or.inl rfl)) (fun _ _ _ _ _ => pts_nil) (fun _ _ _ _ _ => pe_cmpR op_le (Own.pe_ixOwn M MF hr (pv 0) (pv 2)) (Own.pe_ixOwn M MF hr (pv 1) (pv 2)) (nomark _))) pa_nil)))), ?_⟩
    refine ⟨_, rfl, y, ss', xs', r', rfl, sb, ?_⟩
    dsimp only
    have sa' := sa
    obtain ⟨dx, n1, n2, dw, pp, prs, h1, h2, h3, h4, h5, h6⟩ := sa'
    have lp : prs.length ≤ 1000 := by
      rw [h6.length, List.length_map]
      unfold sortK
      rw [(List.mergeSort_perm _ _).length_eq, List.length_map]
      omega
    have w0 : Walks (iTup K (tFld K (tVar 0) "pairs")) [some (.ref x), some (.ref y), none] H prs := walks_tup (g_fld rfl h1 S.cl S.nP rfl (⟨pp, rfl, h5⟩ : (tupV prs).R (.ref pp) H))
    have z := comp_is (te := tOp (rI0 fun i j => .bl (decide (i ≤ j))) (tOp (Own.rIxOwn C (spTItem C)) (tVar 0) (tVar 2)) (tOp (Own.rIxOwn C (spTItem C)) (tVar 1) (tVar 2))) (tt := tYes) (i := 2) (vs := [2]) (fun _ => true) (byH H fun k => .bl (decide (wk r k ≤ wk r' k))) w0 lp (fun _ => rfl) (fun _ _ H2 _ Q h => h) (fun v hv _ => by
      obtain ⟨k, hk, b, rfl, hb⟩ := all2_in h6 v hv
      rw [byH_of hb]
      have pk : PairK k := by
        unfold sortK at hk
        obtain ⟨t, ht, rfl⟩ := List.mem_map.mp ((List.mergeSort_perm _ _).mem_iff.mp hk)
        exact or1 t ht
      exact g_op (P := is (.int (wk r k))) (R := is (.int (wk r' k))) (g_tix rfl rfl sa hb pk) (g_tix rfl rfl sb hb pk) fun a c H1 e ea ec Q k => ⟨_, _, ea, ec, k _ _ (Ex.refl _) rfl⟩)
    rw [List.filter_eq_self.mpr (fun _ _ => rfl), byH_all h6] at z
    have eb : (sortK (r.map (·.1))).map (fun k => V.bl (decide (wk r k ≤ wk r' k))) = ((sortK (r.map (·.1))).map fun k => decide (wk r k ≤ wk r' k)).map V.bl := by
      rw [List.map_map]
      rfl
    rw [eb] at z
    have ea : ((sortK (r.map (·.1))).map fun k => decide (wk r k ≤ wk r' k)).all id = leT r r' := by
      rw [List.all_map]
      exact perm_all (List.mergeSort_perm _ _) _
    refine' EvP.st_ret (P := is (.bl (leT r r'))) (g_call z ?h2) ?k
    case h2 =>
      rintro v H1 e1 ⟨l, rfl, hl⟩ Q k
      refine ⟨l, _, rfl, SqL.of hl, ?_⟩
      rw [ea]
      exact k _ _ (Ex.refl _) rfl
    case k =>
      intro v H1 e1 ev
      rw [show v = _ from ev]
      exact q H1 e1
theorem ok_tlt (F : Fun K "__lt__" "Table.__lt__" sTLt f fd) {fL : Addr} {dL : FuncData} (ML : Own.Mt P w K mg base C "__le__" 5 ["self", "other"] (spTwo C leT) fL dL) : FnOk P w K mg base CX0 6 f fd ["self", "other"] (spTwo C fun r r' => leT r r' && !leT r' r) := by
  refine F.ok scTLt (fun vs H Q E h => ?_) (fun cdv A outer s H vs Q E hr h => ?_)
  · obtain ⟨x, y, ss, xs, ss', xs', r, r', rfl, _⟩ := h
    rfl
  · obtain ⟨x, y, ss, xs, ss', xs', r, r', rfl, sa, sb, or1, or2, l1, l2, q⟩ := h
    refine ⟨_, pss_one (ps_ret (pe_and (pe_cmpR (Own.cmp_own (op := .LtE) ML hr) (pv 0) (pv 1) (nomark _)) (pe_one (pe_not (pe_cmpR (Own.cmp_own (op := .LtE) ML hr) (pv 1) (pv 0) (nomark _)))))), ?_⟩
    refine ⟨_, rfl, _, rfl, tbl_ins sa, tbl_ins sb, x, y, ss, xs, ss', xs', r, r', rfl, sa, sb, or1, or2, l1, l2, fun H1 e1 => ⟨_, rfl, ?_⟩⟩
    cases hl : leT r r' with
    | false =>
      have this : Q (.bl (leT r r' && !leT r' r)) H1 := q H1 e1
      rw [hl] at this
      exact this
    | true =>
      refine ⟨_, rfl, _, rfl, tbl_ins (sb.mono e1), tbl_ins (sa.mono e1), y, x, ss', xs', ss, xs, r', r, rfl, sb.mono e1, sa.mono e1, or2, or1, l2, l1, fun H2 e2 => ⟨_, rfl, ?_⟩⟩
      have this : Q (.bl (leT r r' && !leT r' r)) H2 := q H2 (e1.trans e2)
      rw [hl] at this
      exact this
theorem ok_tge (F : Fun K "__ge__" "Table.__ge__" sTGe f fd) {fL : Addr} {dL : FuncData} (ML : Own.Mt P w K mg base C "__le__" 5 ["self", "other"] (spTwo C leT) fL dL)
    (GO : FnOk P w K mg base CX0 1 fN fdN ["other"] (spTOther C)) (bO : Binds K fdN ["other"] []) (gO : mg "check_other" = some (.ref fN)) (kO : PySem.W.keepIn K (.ref fN) = true) : FnOk P w K mg base CX0 6 f fd ["self", "other"] (spTwo C fun r r' => leT r' r) := by
  refine F.ok scTGe (fun vs H Q E h => ?_) (fun cdv A outer s H vs Q E hr h => ?_)
  · obtain ⟨x, y, ss, xs, ss', xs', r, r', rfl, _⟩ := h
    rfl
  · obtain ⟨x, y, ss, xs, ss', xs', r, r', rfl, sa, sb, or1, or2, l1, l2, q⟩ := h
    refine ⟨_, pss_cons (ps_expr (pe_call GO (hr.mono (by decide)) (by rfl) gO kO bO .nil pass0 (pa_cons (pv 1) pa_nil))) (pss_one (ps_ret (pe_cmpR (Own.cmp_own (op := .LtE) ML hr) (pv 1) (pv 0) (nomark _)))), ?_⟩
    exact ⟨_, rfl, y, ss', xs', r', rfl, sb, _, rfl, _, rfl, tbl_ins sb, tbl_ins sa, y, x, ss', xs', ss, xs, r', r, rfl, sb, sa, or2, or1, l2, l1, q⟩
theorem ok_tgt (F : Fun K "__gt__" "Table.__gt__" sTGt f fd) {fL : Addr} {dL : FuncData} (ML : Own.Mt P w K mg base C "__lt__" 6 ["self", "other"] (spTwo C fun r r' => leT r r' && !leT r' r) fL dL)
    (GO : FnOk P w K mg base CX0 1 fN fdN ["other"] (spTOther C)) (bO : Binds K fdN ["other"] []) (gO : mg "check_other" = some (.ref fN)) (kO : PySem.W.keepIn K (.ref fN) = true) : FnOk P w K mg base CX0 7 f fd ["self", "other"] (spTwo C fun r r' => leT r' r && !leT r r') := by
  refine F.ok scTGt (fun vs H Q E h => ?_) (fun cdv A outer s H vs Q E hr h => ?_)
  · obtain ⟨x, y, ss, xs, ss', xs', r, r', rfl, _⟩ := h
    rfl
  · obtain ⟨x, y, ss, xs, ss', xs', r, r', rfl, sa, sb, or1, or2, l1, l2, q⟩ := h
    refine ⟨_, pss_cons (ps_expr (pe_call GO (hr.mono (by decide)) (by rfl) gO kO bO .nil pass0 (pa_cons (pv 1) pa_nil))) (pss_one (ps_ret (pe_cmpR (Own.cmp_own (op := .Lt) ML hr) (pv 1) (pv 0) (nomark _)))), ?_⟩
    exact ⟨_, rfl, y, ss', xs', r', rfl, sb, _, rfl, _, rfl, tbl_ins sb, tbl_ins sa, y, x, ss', xs', ss, xs, r', r, rfl, sb, sa, or2, or1, l2, l1, q⟩
end
end Tb

set_option Elab.async false
set_option linter.all false
set_option maxRecDepth 100000
set_option maxHeartbeats 4000000
/-! An own instance is walked: its __iter__ hands back the iterator of a tuple. -/
namespace Own
open PySem PySem.Spec PyProof.Rows L2 ItX
/-- at it an iterator over the tuple at t, at its start -/
def ItT (t it : Addr) : HO := .ext fun h => h.IsTupleIter it t 0
theorem itT_ok {P : Program} {w : World} {H : Hp} {h : Heap} {t it : Addr} (e : h.IsTupleIter it t 0) : ObjOk P w H h it (ItT t it) := by
  obtain ⟨o, ho, r⟩ := e
  exact ⟨⟨o, ho, r⟩, ⟨o, ho⟩, fun h1 h2 z k => by
    obtain ⟨o1, e1, r1⟩ := z
    exact ⟨o1, k _ e1, r1⟩⟩
section
variable {X : Cx} {pins : List (Addr × Obj)} {σ : L2.St} {H : Hp} {s : Shared}
theorem itT_get {t it : Addr} (I : Inv X pins σ H s) (e : H it = some (ItT t it)) : s.heap.IsTupleIter it t 0 := by
  have x : ObjOk X.prog X.w H s.heap it (.ext fun h => h.IsTupleIter it t 0) := I.hok it _ e
  exact x.1
/-- iter(t), t a tuple; n: what the heap held when the def began -/
def rIterT (K : PySem.W.Frag) (n : Nat) : List V → Hp → VK → Prop := fun xs H Q => ∃ (t : Addr) (zs : List V), xs = [.ref t] ∧ SqT K H t zs ∧ ∀ it, H it = none → n ≤ it → Q (.ref it) (upd H it (ItT t it))
theorem call_iterT : CallR X (.builtin "iter") (rIterT X.K X.s_0.heap.objs.size) := by
  intro pins s σ H xs us Q I r h
  obtain ⟨t, zs, rfl, hq, q⟩ := h
  obtain ⟨u, rfl, ru⟩ := vals1 r
  cases ru
  obtain ⟨its, rv, p, hz⟩ := I.tuple hq
  refine Calls.call_function_entry (by decide +kernel) (by decide +kernel) PySem.W.kdk_entry_iter (PySem.W.kdk_args_iter _) ?_
  unfold Builtin.«iter»
  refine wpAny_bind (m := someArgs "iter" 1 2 _) (wpAny_of_eq (a := [Value.ref t]) (by first | rfl | kernel_rfl!) ?_)
  show wpAny _ _ (pyIter (.ref t) >>= _) _ _ _
  refine wpAny_bind (wpAny_pyIter_tuple (show s.heap.IsTuple t its.toArray from p) (wpAny_pure ⟨_, rfl, ?_⟩))
  have new : (s.heap.push { cls := .type "tuple_iterator", data := .fields #[.ref t, .int 0 0] }).IsTupleIter s.heap.objs.size t 0 := ⟨_, Heap.get?_push_size _ rfl, rfl, rfl⟩
  exact ⟨.ref s.heap.objs.size, _, I.laid (t' := s.toks) (fun b u e => Heap.get?_push_of_some _ e) (Nat.le_refl _) (itT_ok new), rfl, q _ (I.hok.fresh (Nat.le_refl _)) I.sz⟩
end
section
variable {P : Program} {w : World} {K : PySem.W.Frag} {mg : Str → Option Value} {base : Heap} {k : Nat} {f : Addr} {fd : FuncData} {ps : List Str}
/-- a def whose promise may speak of the size of the heap at its call -/
structure FnZ (P : Program) (w : World) (K : PySem.W.Frag) (mg : Str → Option Value) (base : Heap) (k : Nat) (f : Addr) (ps : List Str) (fd : FuncData) (sp : Nat → Sp) : Prop where
  run : ∀ (A : Around) (outer : List Env) (s : Shared) (H : Hp) (args : Args) (us : List Value) (vs : List V) (Q : VK), Room k A → Env0 P w K mg base A outer s H →
    BindsTo s fd args (ps.zip us) → Vals vs us → vs.length = ps.length → sp s.heap.objs.size vs H Q E0 → codeAny (model P w) A (.call (.ref f) args) (CR CX0 outer P w H s Q E0) s
theorem Fun.okZ {sp : Nat → Sp} {x qual : Str} {st : Stmt} {N : List Str} (F : Fun K x qual st f fd) (S : FnScope N ps (defScope st))
    (walk : ∀ (cdv : Value) (A : Around) (outer : List Env) (s : Shared) (H : Hp) (vs : List V) (Q : VK), Room k (A.deeper (envOfC qual (defScope st) s.heap.objs.size f cdv)) → sp s.heap.objs.size vs H Q E0 →
      ∃ t, PSs (cxOf CX0 P w K mg base N qual (defScope st) f cdv A outer s H E0).nox (defBody st) t ∧ t { nx := fun _ H' => Q .non H', rt := Q } (start N vs) H) : FnZ P w K mg base (k + 1) f ps fd sp := by
  obtain ⟨oc, od, kV, doc, pm, an, cdv, ct, osl, rfl, lk, hcd⟩ := F.ex
  refine ⟨fun A outer s H args us vs Q room e0 bd r n1 h => ?_⟩
  have inH : ∀ b o, base.get? b = some o → s.heap.get? b = some o := fun b o e => (e0.bs b o e).1
  have kin : K.In s.heap := e0.mod.kin.keeps inH
  have par : ∀ y ∈ ps.zip us, (defScope st).names.lookup y.1 = some .local ∨ ((defScope st).names.lookup y.1 = some .cell ∧ ((cellsFrom (s.heap.objs.size + 1) (defScope st).names []).lookup y.1).isSome = true) := by
    rintro ⟨y, z⟩ hy
    exact (S.par y (List.of_mem_zip hy).1).imp id fun q => ⟨q, PySem.W.cellsFrom_some _ _ _ (.inl q)⟩
  refine codeAny_call_function room.depth (kin _ _ lk) rfl S.co S.gen rfl (PySem.W.codeRec_of kin hcd) (bd _ _ _ _ (wpAny_newFunctionEnv_cells S.kind par fun env he s1 z => ?_))
  subst he
  refine ⟨(e0.mod.nolimit.keeps inH).keeps z.toInCall.keep, codeAny_func ?_⟩
  obtain ⟨t, ok, ends⟩ := walk cdv A outer s H vs Q (room.deeper _) h
  have J := inv_start (CX := CX0) (E := E0) S room.hd e0 n1 r z
  refine wpAny_mono (ok.nox.run [] s1 _ H _ J ends) (fun fl s' q => ?_) fun e s' q => q
  rcases fl with u | _ | _ | _
  all_goals first
    | (obtain ⟨v, σ', H', J', rv, q⟩ := q; exact ⟨v, H', J'.os, J'.bare, J'.base, J'.hok, rv, q⟩)
    | (obtain ⟨σ', H', J', q⟩ := q; exact ⟨V.non, H', J'.os, J'.bare, J'.base, J'.hok, rfl, q⟩)
    | (obtain ⟨_, _, _, q⟩ := q; exact q.elim)
end
section
variable {X : Cx} {C f : Addr} {fd : FuncData} {k : Nat} {ps : List Str} {sp : Nat → Sp} {tg e : Expr} {te : TE}
/-- for .. in e, e an own instance -/
def iOwn (K : PySem.W.Frag) (C : Addr) (sp : Nat → Sp) (te : TE) : TI := fun σ H R => te σ H fun x H1 => Ins H1 x C ∧ ∀ n, sp n [x] H1 (fun v H2 => ∃ it t, v = .ref it ∧ H2 it = some (ItT t it) ∧ n ≤ it ∧ R (Itt K t) (dropH H2 it)) E0
theorem pi_own (at_ : PySem.W.findIn X.K (.ref C) "__iter__" = some (some (.ref f))) (fn : PySem.W.isFn X.K (.ref f) = true) (F : FnZ X.prog X.w X.K X.mg X.base k f ["self"] fd sp) (b : Binds X.K fd ["self"] []) (hr : Room k X.A) (he : PE X e te) : PI X tg e (iOwn X.K C sp te) := by
  refine ⟨fun pins s σ H R I h => thn (he.run pins s σ H _ I h) fun v s1 ⟨x, H1, I1, r1, ⟨a, dx, fs, ex, ha⟩, q⟩ => ?_⟩
  subst ex
  cases r1
  obtain ⟨ox, od, J⟩ := ins_at I1 ha
  obtain ⟨m, fr⟩ := I1.fr
  have e0 := I1.env0
  refine PySem.W.owit_iter fr I1.ok.mod.kin J at_ fn (wpAny_call (codeAny_mono (F.run X.A X.stack s1 H1 ⟨[.ref a], []⟩ [.ref a] [.ref a] _ hr e0 (b s1 [.ref a] I1.kIn rfl) (.cons rfl .nil) rfl (q s1.heap.objs.size)) fun r s' z => ?_))
  cases r with
  | error e => exact (show False from z).elim
  | ok fl =>
    cases fl with
    | next => exact (show False from z).elim
    | brk => exact (show False from z).elim
    | cont => exact (show False from z).elim
    | ret u =>
      obtain ⟨v, H2, I2, rv, it, t, rfl, hi, hn, hR⟩ := I1.after z
      cases rv
      have st := itT_get I2 hi
      obtain ⟨o, ho, hc, hd⟩ := id st
      show PySem.W.OwitIt _ _ _ _ _ _
      unfold PySem.W.OwitIt specialOf
      have ty : s'.TypeIs (.ref it) "tuple_iterator" := ⟨o, ho, hc⟩
      refine wpAny_bind (wpAny_typeOf ty ?_)
      rw [PySem.F.slot_tuple_iterator_next.lookup]
      refine wpAny_pure ?_
      have hi' := hi
      unfold ItT at hi'
      refine ⟨it, [it], _, _, dropH H2 it, rfl, inv_drop I2 hi', turn_tuple t it, st, fun b hb => ?_, hR⟩
      obtain rfl : b = it := by simpa using hb
      exact inv_fp I2 hi (Nat.le_trans I1.sz hn)
end
end Own

set_option Elab.async false
set_option linter.all false
set_option maxRecDepth 100000
set_option maxHeartbeats 4000000
/-! list(x), x an own instance: its __iter__ hands back the iterator of a tuple, its __len__ tells an integer. -/
namespace Own
open PySem PySem.Spec PyProof.Rows L2 ItX
section
variable {X : Cx} {pins : List (Addr × Obj)} {σ : L2.St}
theorem fp_upd {H : Hp} {q it : Addr} {o : HO} (h : FpOk X pins H it) (ne : it ≠ q) : FpOk X pins (upd H q o) it := ⟨by rw [upd_ne ne]; exact h.1, h.2⟩
theorem it_loop {A1 : Around} {q t it : Addr} {zs : List V} {Rs : Result → Shared → Prop} (hh : A1.handled = none) (hz : zs.length ≤ sizeLine) :
    ∀ (k i : Nat) (H : Hp) (s : Shared), zs.length - i = k → i ≤ zs.length → Inv X pins σ H s → H q = some (.lst (zs.take i)) → SqT X.K H t zs → t ≠ q → FpOk X pins H it → s.heap.IsTupleIter it t i →
      (∀ s', Inv X pins σ (upd H q (.lst zs)) s' → Rs (.ok (.ret .none)) s') → codeAny (model X.prog X.w) A1 (.builtin "list.extend.loop" ⟨[.ref q, .ref it, .none], []⟩) Rs s := by
  intro k
  induction k with
  | zero =>
    intro i H s hk hi I hq ht tq hf st hR
    have e : i = zs.length := by omega
    subst e
    rw [List.take_length] at hq
    have eH : upd H q (.lst zs) = H := by
      funext b
      by_cases hb : b = q
      · rw [hb, upd_same, hq]
      · rw [upd_ne hb]
    rw [eH] at hR
    obtain ⟨its, rv, p, _⟩ := I.tuple ht
    obtain ⟨f0, f1, f2, f3, f4, f5⟩ := hf
    have hl := rv.length
    refine codeAny_builtin PySem.F.entry_extend_loop ?_
    rw [Around.under_plainId PySem.F.plain_extend_loop _]
    show wpAny _ A1.in1 (pyNext (.ref it) >>= _) _ _ s
    refine wpAny_bind (wpAny_pyNext_tuple_end (show A1.in1.handled = none from hh) st (show s.heap.IsTuple t its.toArray from p) (by simp; omega) fun h' eb => ?_)
    exact wpAny_pure (hR _ (I.turned (t' := s.toks) (fun b o hb e => eb b o hb e) f0 f1 f3 f4 f5))
  | succ k ih =>
    intro i H s hk hi I hq ht tq hf st hR
    have hlt : i < zs.length := by omega
    have hx : zs[i]? = some zs[i] := List.getElem?_eq_getElem hlt
    obtain ⟨its, rv, p, _⟩ := I.tuple ht
    obtain ⟨u, hu, ru⟩ := rv.get hx
    have hf' := hf
    obtain ⟨f0, f1, f2, f3, f4, f5⟩ := hf
    have iq : it ≠ q := fun z => by
      rw [z, hq] at f0
      cases f0
    refine codeAny_builtin PySem.F.entry_extend_loop ?_
    rw [Around.under_plainId PySem.F.plain_extend_loop _]
    show wpAny _ A1.in1 (pyNext (.ref it) >>= _) _ _ s
    refine wpAny_bind (wpAny_pyNext_tuple_item st (show s.heap.IsTuple t its.toArray from p) (x := u) (by simpa using hu) fun h' st' sb => ?_)
    have I1 : Inv X pins σ H { s with heap := h' } := I.turned (t' := s.toks) (fun b o hb e => (sb.2 b hb).trans e) f0 f1 f3 f4 f5
    show wpAny _ A1.in1 (updateSeq q (·.push u) >>= _) _ _ _
    obtain ⟨z, its2, n2, r2, hl2, e2⟩ := I1.lstM hq
    have lt2 : its2.length < sizeLine := by
      rw [← hl2, List.length_take]
      omega
    refine wpAny_bind (wpAny_updateSeq e2 rfl (wpAny_pure ⟨plainId_quiet PySem.F.plain_extend_loop _, ?_⟩) (by rw [List.size_toArray]; omega) (by show (its2.toArray.push u).size ≤ sizeLine + 1; rw [Array.size_push, List.size_toArray]; omega))
    have tk : zs.take (i + 1) = zs.take i ++ [zs[i]] := by rw [List.take_add_one, hx]; rfl
    refine ih (i + 1) (upd H q (.lst (zs.take (i + 1)))) _ (by omega) (by omega) ?_ upd_same ?_ tq (fp_upd hf' iq) ?_ fun s' I' => hR s' (by rw [upd_upd] at I'; exact I')
    · rw [tk]
      exact I1.lset (its' := its2 ++ [u]) (t' := s.toks) hq e2 (by simp) (r2.append (.cons ru .nil)) (by rw [List.length_append, List.length_singleton, List.length_take]; omega)
    · rcases ht with ht | ht
      · refine .inl ?_
        rcases ht with ht | ⟨o, ht⟩
        · exact .inl (by rw [upd_ne tq]; exact ht)
        · exact .inr ⟨o, by rw [upd_ne tq]; exact ht⟩
      · exact .inr ht
    · exact st'.at fun o e => (Heap.get?_update_other _ _ (Ne.symm iq)).trans e
end
section
variable {X : Cx} {pins : List (Addr × Obj)} {σ : L2.St} {H : Hp} {s : Shared} {f : Addr} {fd : FuncData} {k : Nat} {ps : List Str} {sp : Sp}
/-- the call of a def that lets nothing out, wherever an error would go -/
theorem run_atE {A' : Around} {E : Value → Shared → Prop} {vs : List V} {us : List Value} {Q : VK} (F : FnOk X.prog X.w X.K X.mg X.base CX0 k f fd ps sp) (b : Binds X.K fd ps []) (frames : A'.frames = X.A.frames) (hr : Room k A') (I : Inv X pins σ H s) (r : Vals vs us) (h : sp vs H Q E0) :
    wpAny (model X.prog X.w) A' (call (.ref f) us) (EP X pins σ Q) E s := by
  have e := I.env0
  have n : (us ++ []).length = ps.length := by rw [List.append_nil, ← r.length]; exact F.len _ _ _ _ h
  refine wpAny_call (codeAny_mono (F.run A' X.stack s H ⟨us, []⟩ (us ++ []) vs Q E0 hr ⟨frames.trans e.frames, e.mod, e.bs, e.bsz, e.funs, e.frf, e.hok, e.bare⟩ (b s us I.kIn n) (by rw [List.append_nil]; exact r) h) fun r s' q => ?_)
  cases r with
  | error e => exact (show False from q).elim
  | ok fl =>
    cases fl with
    | ret u => exact I.after q
    | next => exact (show False from q).elim
    | brk => exact (show False from q).elim
    | cont => exact (show False from q).elim
end
section
variable {X : Cx} {C fI fL : Addr} {fdI fdL : FuncData} {kI kL : Nat} {psI psL : List Str} {spI : Nat → Sp} {spN : Sp}
/-- list(x): n is what the heap holds when __iter__ begins -/
def rListIt (K : PySem.W.Frag) (C : Addr) (spI : Nat → Sp) (spN : Sp) : List V → Hp → VK → Prop := fun xs H Q => ∃ x, xs = [x] ∧ Ins H x C ∧ ∀ q, H q = none → ∀ n, spI n [x] (upd H q (.lst [])) (fun v H2 => ∃ it t zs, v = .ref it ∧ H2 it = some (ItT t it) ∧ n ≤ it ∧ Ins H2 x C ∧ H2 q = some (.lst []) ∧
  spN [x] (dropH H2 it) (fun v H3 => ∃ k : Nat, v = .int k ∧ k < 1000000 ∧ H3 q = some (.lst []) ∧ t ≠ q ∧ SqT K H3 t zs ∧ zs.length ≤ 1000 ∧ Q (.ref q) (upd H3 q (.lst zs))) E0) E0
theorem call_listIt (itA : PySem.W.findIn X.K (.ref C) "__iter__" = some (some (.ref fI))) (itN : PySem.W.isFn X.K (.ref fI) = true) (FI : FnZ X.prog X.w X.K X.mg X.base kI fI ["self"] fdI spI) (bI : Binds X.K fdI ["self"] [])
    (M : Mt X.prog X.w X.K X.mg X.base C "__len__" kL ["self"] spN fL fdL) (hrI : Room (kI + 3) X.A) (hrL : Room (kL + 3) X.A) (hcalm : X.calm = true) : CallR X (.type "list") (rListIt X.K C spI spN) := by
  intro pins s σ H xs us Q I rv h
  obtain ⟨_, rfl, ⟨a, dx, fs, rfl, ha⟩, hq⟩ := h
  obtain ⟨u, rfl, ru⟩ := rv.one
  cases ru
  refine callType_codes (Q₁ := fun obj s₁ => obj = .ref s.heap.objs.size ∧ s₁ = { s with heap := s.heap.push { cls := .type "list", data := .seq #[] } }) PySem.F.called_list (PySem.F.typeCall_list_1 _) PySem.F.entry_list_init
    (code_list_new _ ⟨rfl, rfl⟩) fun obj s₁ h₁ => ?_
  obtain ⟨rfl, rfl⟩ := h₁
  have hS : (s.heap.push { cls := .type "list", data := .seq #[] }).get? s.heap.objs.size = some { cls := .type "list", data := .seq #[] } := Heap.get?_push_size _ rfl
  refine ⟨⟨_, hS, rfl⟩, PySem.F.args_list_init_2 _ _, ?_⟩
  have fr : H s.heap.objs.size = none := I.hok.fresh (Nat.le_refl _)
  have I1 : Inv X pins σ (upd H s.heap.objs.size (.lst [])) { s with heap := s.heap.push { cls := .type "list", data := .seq #[] } } := I.lnew (its := []) (t' := s.toks) .nil (Nat.zero_le _)
  show wpAny _ _ (do let old ← Builtin.List.listItems (.ref s.heap.objs.size); Builtin.List.listUpdate (.ref s.heap.objs.size) (fun _ => #[]); letGo old.toList.reverse; Builtin.List.listExtendWith (.ref s.heap.objs.size) (.ref a) .none) _ _ _
  refine wpAny_bind ?_
  unfold Builtin.List.listItems
  refine wpAny_bind (wpAny_seqItems hS rfl (wpAny_pure ?_))
  show wpAny _ _ (updateSeq s.heap.objs.size (fun _ => #[]) >>= fun _ => letGo (#[] : Array Value).toList.reverse >>= fun _ => Builtin.List.listExtendWith (.ref s.heap.objs.size) (.ref a) .none) _ _ _
  refine wpAny_bind (wpAny_updateSeq hS rfl ?_)
  have I2 := I1.lset (f := fun _ => #[]) (its := []) (its' := []) (ys := []) (t' := s.toks) upd_same hS rfl .nil (Nat.zero_le _)
  rw [upd_upd] at I2
  refine wpAny_bind (wpAny_letGo ?_)
  have ha2 : upd H s.heap.objs.size (.lst []) a = some (.ins C dx fs) := by rw [upd_ne (ne_of_none ha fr)]; exact ha
  have hne : s.heap.objs.size ≠ a := (ne_of_none ha fr).symm
  have hq2 : upd H s.heap.objs.size (.lst []) s.heap.objs.size = some (.lst []) := upd_same
  have hspI := hq s.heap.objs.size fr
  generalize upd H s.heap.objs.size (.lst []) = G at I2 ha2 hq2 hspI
  generalize s.heap.objs.size = q at I2 ha2 hq2 hspI hne
  generalize { s with heap := _, toks := s.toks } = s2 at I2
  obtain ⟨ox, od, J⟩ := ins_at I2 ha2
  obtain ⟨m0, hF⟩ := I2.fr
  unfold Builtin.List.listExtendWith
  refine wpAny_bind (J.type.here ?_)
  have h1 : Builtin.List.listSameRef (.ref q) (.ref a) = false := by simp [Builtin.List.listSameRef, hne]
  have h2 : (Value.ref C == Value.type "list") = false := rfl
  have h3 : (Value.ref C == Value.type "tuple") = false := rfl
  simp only [h1, h2, h3, Bool.or_false, Bool.false_eq_true, if_false]
  have e0 := I2.env0
  refine wpAny_bind (PySem.W.owit_iter hF I2.ok.mod.kin J itA itN (wpAny_call (codeAny_mono (FI.run X.A.in1.in1 X.stack s2 G ⟨[.ref a], []⟩ [.ref a] [.ref a] _ (hrI.mono (by omega)).in1.in1 ⟨e0.frames, e0.mod, e0.bs, e0.bsz, e0.funs, e0.frf, e0.hok, e0.bare⟩ (bI s2 [.ref a] I2.kIn rfl) (.cons rfl .nil) rfl (hspI s2.heap.objs.size)) fun r s' z => ?_)))
  cases r with
  | error e => exact (show False from z).elim
  | ok fl =>
    cases fl with
    | next => exact (show False from z).elim
    | brk => exact (show False from z).elim
    | cont => exact (show False from z).elim
    | ret u =>
      obtain ⟨v, H2, I3, rv3, it, t, zs, rfl, hit, hn, ⟨b, dx3, fs3, eb, hb⟩, hq3, hspN⟩ := I2.after z
      cases eb
      cases rv3
      have st := itT_get I3 hit
      obtain ⟨o, ho, hc, hd⟩ := id st
      show PySem.W.OwitIt _ _ _ _ _ _
      unfold PySem.W.OwitIt specialOf
      have ty : s'.TypeIs (.ref it) "tuple_iterator" := ⟨o, ho, hc⟩
      refine wpAny_bind (wpAny_typeOf ty ?_)
      rw [PySem.F.slot_tuple_iterator_next.lookup]
      refine wpAny_pure ?_
      have hit' := hit
      unfold ItT at hit'
      have I4 := inv_drop I3 hit'
      have fp4 : FpOk X pins (dropH H2 it) it := inv_fp I3 hit (Nat.le_trans I2.sz hn)
      have T := turn_tuple (P := X.prog) (w := X.w) (K := X.K) (tg := .Name "x" ⟨0, 0, 0, 0⟩) t it
      have I5 := I4.pinned (fp := [it]) (fun b hb => by
        obtain rfl : b = it := by simpa using hb
        exact fp4) (fun b hb => by
        obtain rfl : b = it := by simpa using hb
        exact ⟨o, ho, fun v z => by rw [hd] at z; cases z⟩)
      have ab : a ≠ it := fun z => by
        rw [z, hit'] at hb
        cases hb
      have hb4 : dropH H2 it a = some (.ins C dx3 fs3) := by rw [dropH_ne ab]; exact hb
      obtain ⟨ox5, od5, J5⟩ := ins_at I5 hb4
      obtain ⟨m5, hF5⟩ := I5.fr
      refine wpAny_bind (wpAny_holding ?_)
      unfold Builtin.List.listLengthHint
      refine wpAny_bind (wpAny_bind (J5.type.here ((PySem.W.looks_findIn I5.kIn M.at_).here ?_)))
      refine PySem.W.KFB.if_not rfl ?_
      refine PySem.W.KFB.if_so rfl ?_
      refine wpAny_bind (wpAny_rule ?_)
      refine wpAny_bind (wpAny_attempt ?_)
      have ne' : a ≠ q := hne.symm
      refine PySem.W.len_K hF5 I5.ok.mod.kin J5 M.at_ M.fn (wpAny_mono (run_atE (E := fun _ _ => False) M.ok M.b rfl (hrL.mono (by omega)).in1.in1.in1 I5 (.cons (show RelV (V.ref a) (Value.ref a) from rfl) .nil) hspN) (fun r6 s6 z6 => ?_) fun _ _ z => z.elim)
      obtain ⟨v6, H6, I6, rv6, n6, rfl, h6, hq6, tq, ht6, hz6, q6⟩ := z6
      obtain ⟨t6, rfl⟩ := rv6
      refine ⟨⟨by omega, by omega⟩, ?_⟩
      show wpAny _ _ (asInt? (Value.int (n6 : Int) s6.toks) >>= _) _ _ _
      refine wpAny_bind (wpAny_of_eq (a := some (n6 : Int)) rfl ?_)
      refine PySem.W.KFB.if_not (notLongL (by rw [sizeLine_eq]; simp; omega)) ?_
      refine wpAny_pure ?_
      have I7 := I6.unpinned
      have pin := fun o e => I6.pin (it, o) (List.mem_append_right _ (List.mem_append_right _ (mem_pinsAt (fp := [it]) (h := s'.heap) (by simp) e)))
      have st6 : s6.heap.IsTupleIter it t 0 := st.at fun o e => (pin o e).1
      have fp6 : FpOk X pins H6 it := ⟨(pin o ho).2.1, fp4.2⟩
      have zl : zs.length ≤ sizeLine := by rw [sizeLine_eq]; omega
      have fin : ∀ s8, Inv X pins σ (upd H6 q (.lst zs)) s8 → wants (fun r s₂ => r = .none ∧ EP X pins σ Q (.ref q) s₂) X.xe (.ok (.ret .none)) s8 := fun s8 I8 => ⟨rfl, .ref q, _, I8, rfl, q6⟩
      have eH : upd H6 q (.lst []) = H6 := by
        funext b
        by_cases hb : b = q
        · rw [hb, upd_same, hq6]
        · rw [upd_ne hb]
      have I7' : Inv X pins σ H6 { s6 with toks := s6.toks + 1 } := I7.tok _
      obtain ⟨z3, its3, k3, r3, hl3, e3⟩ := I7'.lstM hq6
      cases r3
      refine wpAny_ite_split (fun _ => ?_) (fun _ => wpAny_pure ⟨plainId_quiet PySem.F.plain_extend_loop _, it_loop (A1 := X.A.in1) (I.ok.hd hcalm) zl zs.length 0 H6 _ (by omega) (by omega) I7' (by rw [List.take_zero]; exact hq6) ht6 tq fp6 st6 fin⟩)
      refine wpAny_bind (wpAny_rule ?_)
      refine wpAny_bind ?_
      show wpAny _ _ (updateSeq q (·.push .none) >>= fun _ => updateSeq q (·.pop)) _ _ _
      refine wpAny_bind (wpAny_updateSeq e3 rfl ?_)
      have I8 := I7'.lset (f := (·.push Value.none)) (its' := [Value.none]) (ys := [.non]) (t' := s6.toks + 1) hq6 e3 (by simp) (.cons rfl .nil) (by rw [List.length_singleton, sizeLine_eq]; decide)
      obtain ⟨z4, its4, k4, r4, hl4, e4⟩ := I8.lstM upd_same
      obtain ⟨u4, rfl, ru4⟩ := r4.one
      refine wpAny_updateSeq e4 rfl ?_ (by show 1 ≤ sizeLine; rw [sizeLine_eq]; decide) (by show 0 ≤ sizeLine + 1; exact Nat.zero_le _)
      have I9 := I8.lset (f := (·.pop)) (its := [u4]) (its' := []) (ys := []) (t' := s6.toks + 1) upd_same e4 (by rfl) .nil (Nat.zero_le _)
      rw [upd_upd, eH] at I9
      have itq : it ≠ q := fun z => by
        have := fp6.1
        rw [z, hq6] at this
        cases this
      exact wpAny_pure ⟨plainId_quiet PySem.F.plain_extend_loop _, it_loop (A1 := X.A.in1) (I.ok.hd hcalm) zl zs.length 0 H6 _ (by omega) (by omega) I9 (by rw [List.take_zero]; exact hq6) ht6 tq fp6 (st6.at fun o e => (Heap.get?_update_other _ _ (Ne.symm itq)).trans ((Heap.get?_update_other _ _ (Ne.symm itq)).trans e)) fin⟩
end
end Own

set_option Elab.async false
set_option linter.all false
set_option maxRecDepth 100000
set_option maxHeartbeats 4000000
/-! Table.__eq__, Table.__iter__. -/
namespace Tb
open PySem PySem.Spec PyProof.Rows L2 EvP Cm Fk DtE KyS XG
abbrev sTEq : Stmt := tmeth 19
abbrev sTIter : Stmt := tmeth 2
theorem scTEq : FnScope ["self", "other"] ["self", "other"] (defScope sTEq) := ⟨rfl, rfl, rfl, by decide +kernel, rfl, by decide +kernel, by decide +kernel⟩
theorem scTIter : FnScope ["self"] ["self"] (defScope sTIter) := ⟨rfl, rfl, rfl, by decide +kernel, rfl, by decide +kernel, by decide +kernel⟩
def strsD (ss : List Str) : PyData := .tuple (ss.map PyData.str)
theorem dp_strs {K : PySem.W.Frag} {H : Hp} : ∀ ss : List Str, DpAll K H (ss.map V.str) (ss.map PyData.str)
  | [] => .nil
  | s :: r => .cons (.str s) (dp_strs r)
theorem eqv_strs : ∀ ss ts : List Str, PyData.eqvAll (ss.map PyData.str) (ts.map PyData.str) = decide (ss = ts)
  | [], [] => rfl
  | [], _ :: _ => rfl
  | _ :: _, [] => rfl
  | s :: ss, t :: ts => by
    show ((s == t) && PyData.eqvAll (ss.map PyData.str) (ts.map PyData.str)) = _
    rw [eqv_strs ss ts]
    by_cases h1 : s = t
    · by_cases h2 : ss = ts
      · simp [h1, h2]
      · simp [h2]
    · simp [h1]
theorem lay_strs : ∀ {ss : List Str}, (∀ s ∈ ss, PyData.strOk s = true) → PyData.canLayAll0 (ss.map PyData.str) = true
  | [], _ => rfl
  | s :: r, h => by
    show (PyData.strOk s && PyData.canLayAll0 (r.map PyData.str)) = true
    rw [h s (.head _), lay_strs fun y hy => h y (.tail _ hy)]
    rfl
theorem depth_strs : ∀ ss : List Str, PyData.depthAll (ss.map PyData.str) = 0
  | [] => rfl
  | s :: r => by
    show max 0 (PyData.depthAll (r.map PyData.str)) = 0
    rw [depth_strs r]
    rfl
theorem shaped_strs {ss : List Str} (h : ∀ s ∈ ss, PyData.strOk s = true) : SeqAt.shaped (strsD ss) = true := by
  show (PyData.canLayAll0 (ss.map PyData.str) && decide (PyData.depthAll (ss.map PyData.str) + 1 ≤ 64)) = true
  rw [lay_strs h, depth_strs]
  rfl
def eqT (ss xs ss' xs' : List Str) (r r' : TRow) : Bool := decide (ss = ss') && (decide (xs = xs') && sameT r r')
def Oks (ss : List Str) : Prop := ∀ s ∈ ss, PyData.strOk s = true
def spTEq (K : PySem.W.Frag) (C : Addr) : Sp := fun vs H Q _ => (∃ (x y : Addr) (ss xs ss' xs' : List Str) (r r' : TRow), vs = [.ref x, .ref y] ∧ TblAt C H x ss xs r ∧ TblAt C H y ss' xs' r' ∧ Oks ss ∧ Oks xs ∧ Oks ss' ∧ Oks xs' ∧ Q (.bl (eqT ss xs ss' xs' r r')) H) ∨
  ∃ x y t, vs = [x, y] ∧ TyX K H y t ∧ PySem.W.kitOne K t (.ref C) = some false ∧ Q (.bl false) H
def spTIter (C : Addr) (n : Nat) : Sp := fun vs H Q _ => ∃ x ss xs r, vs = [.ref x] ∧ TblAt C H x ss xs r ∧ ∀ p prs it, H p = some (.tup prs) → All2 H ((sortK (r.map (·.1))).map fun k => tupV (k.map kV)) prs → H it = none → n ≤ it → Q (.ref it) (upd H it (Own.ItT p it))
section
variable {P : Program} {w : World} {K : PySem.W.Frag} {mg : Str → Option Value} {base : Heap} {C f : Addr} {fd : FuncData}
theorem ok_teq (F : Fun K "__eq__" "Table.__eq__" sTEq f fd) (S : TblC K C) (SI : TblI K C) (T : Blt mg) (gS : mg "Table" = some (.ref C)) : FnOk P w K mg base CX0 1 f fd ["self", "other"] (spTEq K C) := by
  refine F.ok scTEq (fun vs H Q E h => ?_) (fun cdv A outer s H vs Q E hr h => ?_)
  · rcases h with ⟨x, y, ss, xs, ss', xs', r, r', rfl, _⟩ | ⟨x, y, t, rfl, _⟩ <;> rfl
  · refine ⟨_, pss_one (ps_ret (pe_and (pe_callB call_isi (by rfl) T.isi (by decide +kernel) (pa_cons (pv 1) (pa_cons (pe_glob (v := .ref C) (by rfl) gS rfl) pa_nil)))
      (pe_and (pe_cmpR (op_eqD hr.units) (pe_fld (pv 0) rfl) (pe_fld (pv 1) rfl) (nomark _))
      (pe_and (pe_cmpR (op_eqD hr.units) (pe_fld (pv 0) rfl) (pe_fld (pv 1) rfl) (nomark _))
      (pe_one (pe_cmpR (op_eqT (hu_of hr)) (pe_fld (pv 0) rfl) (pe_fld (pv 1) rfl) (nomark _))))))), ?_⟩
    rcases h with ⟨x, y, ss, xs, ss', xs', r, r', rfl, ⟨dx, n1, n2, dw, pp, prs, h1, h2, h3, h4, h5, h6⟩, ⟨dx', n1', n2', dw', pp', prs', k1, k2, k3, k4, k5, k6⟩, o1, o2, o3, o4, q⟩ | ⟨x, y, t, rfl, ty, kt, q⟩
    · refine ⟨_, rfl, _, _, _, _, true, rfl, .own C, .base (.ins k1 S.cl SI.ha SI.hn SI.htk SI.hm), ?_, _, rfl, ?_⟩
      · unfold PySem.W.kitOne
        rw [if_pos (by simp)]
      unfold eqT at q
      refine ⟨_, rfl, x, C, dx, _, _, rfl, h1, S.cl, S.nS, rfl, _, rfl, y, C, dx', _, _, rfl, k1, S.cl, S.nS, rfl, strsD ss, strsD ss', .tup (SqT.of h2) (dp_strs ss), .tup (SqT.of k2) (dp_strs ss'), shaped_strs o1, shaped_strs o3, ?_⟩
      rw [show PyData.eqv (strsD ss) (strsD ss') = decide (ss = ss') from eqv_strs ss ss']
      refine ⟨_, rfl, ?_⟩
      cases c1 : decide (ss = ss') with
      | false =>
        rw [c1] at q
        exact q
      | true =>
        rw [c1, Bool.true_and] at q
        refine ⟨_, rfl, x, C, dx, _, _, rfl, h1, S.cl, S.nU, rfl, _, rfl, y, C, dx', _, _, rfl, k1, S.cl, S.nU, rfl, strsD xs, strsD xs', .tup (SqT.of h3) (dp_strs xs), .tup (SqT.of k3) (dp_strs xs'), shaped_strs o2, shaped_strs o4, ?_⟩
        rw [show PyData.eqv (strsD xs) (strsD xs') = decide (xs = xs') from eqv_strs xs xs']
        refine ⟨_, rfl, ?_⟩
        cases c2 : decide (xs = xs') with
        | false =>
          rw [c2] at q
          exact q
        | true =>
          rw [c2, Bool.true_and] at q
          exact ⟨_, rfl, x, C, dx, _, _, rfl, h1, S.cl, S.nW, rfl, _, rfl, y, C, dx', _, _, rfl, k1, S.cl, S.nW, rfl, dw, dw', r, r', rfl, rfl, h4, k4, q⟩
    · exact ⟨_, rfl, _, _, _, _, false, rfl, .own C, ty, kt, _, rfl, q⟩
theorem ok_titer (F : Fun K "__iter__" "Table.__iter__" sTIter f fd) (S : TblC K C) (hI : mg "iter" = none) : Own.FnZ P w K mg base 1 f ["self"] fd (spTIter C) := by
  refine Own.Fun.okZ F scTIter fun cdv A outer s H vs Q hr h => ?_
  obtain ⟨x, ss, xs, r, rfl, ⟨dx, n1, n2, dw, pp, prs, h1, h2, h3, h4, h5, h6⟩, q⟩ := h
  refine ⟨_, pss_one (ps_ret (pe_callB Own.call_iterT (by rfl) hI (by decide +kernel) (pa_cons (pe_fld (pv 0) rfl) pa_nil))), ?_⟩
  exact ⟨_, rfl, x, C, dx, _, _, rfl, h1, S.cl, S.nP, rfl, pp, prs, rfl, SqT.of h5, fun it hit hn => q pp prs it h5 h6 hit hn⟩
end
end Tb

set_option Elab.async false
set_option linter.all false
set_option maxRecDepth 100000
set_option maxHeartbeats 4000000
/-! row_text, Table.__str__. -/
namespace Tb
open PySem PySem.Spec PyProof.Rows L2 EvP Cm Fk DtE KyS XG
abbrev sRowT : Stmt := top 33
abbrev NR : List Str := ["table", "source", "words", "use"]
theorem scRowT : FnScope NR ["table", "source"] (defScope sRowT) := ⟨rfl, rfl, rfl, by decide +kernel, rfl, by decide +kernel, by decide +kernel⟩
/-- the words of a row -/
def rowW (s : Str) (xs : List Str) (r : TRow) : List Str := s :: xs.map fun u => numT (wk r (key2 s u))
def rowT (s0 s : Str) (xs : List Str) (r : TRow) : Str := Txt.join " " (if s = s0 then rowW s xs r else ";" :: rowW s xs r)
/-- worths that are written -/
def Wks (r : TRow) : Prop := ∀ k, 0 ≤ wk r k ∧ wk r k < 10 ^ 64
def spRowT (C : Addr) : Sp := fun vs H Q _ => ∃ (x : Addr) (s s0 : Str) (ss xs : List Str) (r : TRow), vs = [.ref x, .str s] ∧ TblAt C H x (s0 :: ss) xs r ∧ NameV (.str s) ∧ (∀ u ∈ xs, NameV (.str u)) ∧ xs.length ≤ 6 ∧ Wks r ∧ ∀ H', Ex H H' → Q (.str (rowT s0 s xs r)) H'
theorem sum_le {α : Type} (f : α → Nat) {n : Nat} : ∀ {l : List α}, (∀ x ∈ l, f x ≤ n) → (l.map f).sum ≤ n * l.length
  | [], _ => by simp
  | x :: l, h => by
    have ih := sum_le f fun y hy => h y (.tail _ hy)
    have h0 := h x (.head _)
    rw [List.map_cons, List.sum_cons, List.length_cons, Nat.mul_add]
    omega
theorem numT_len {n : Int} (h0 : 0 ≤ n) (h1 : n < 10 ^ 64) : (numT n).length ≤ 64 := toString_length_le h0 (k := 64) (by decide) h1
theorem name_le {x : Str} (h : NameV (.str x)) : x.length ≤ 8 := by
  obtain ⟨y, ey, _, hb⟩ := h
  cases ey
  exact (name_small hb).1
theorem rowW_sum {s : Str} {xs : List Str} {r : TRow} (hs : NameV (.str s)) (l : xs.length ≤ 6) (w : Wks r) : ((rowW s xs r).map (·.length)).sum ≤ 400 ∧ (rowW s xs r).length ≤ 7 := by
  have a := name_le hs
  have b := sum_le (fun u : Str => (numT (wk r (key2 s u))).length) (n := 64) (l := xs) fun u _ => numT_len (w _).1 (w _).2
  unfold rowW
  rw [List.map_cons, List.sum_cons, List.map_map, List.length_cons, List.length_map]
  refine ⟨?_, by omega⟩
  have e : (xs.map ((fun x : Str => x.length) ∘ fun u => numT (wk r (key2 s u)))).sum = (xs.map fun u => (numT (wk r (key2 s u))).length).sum := rfl
  rw [e]
  have : 64 * xs.length ≤ 64 * 6 := Nat.mul_le_mul_left _ l
  omega
section
variable {P : Program} {w : World} {K : PySem.W.Frag} {mg : Str → Option Value} {base : Heap} {C f fN fI fR : Addr} {fd fdN fdI fdR : FuncData}
theorem ok_rowT (F : Fun K "row_text" "row_text" sRowT f fd) (S : TblC K C) (M : Own.Mt P w K mg base C "__getitem__" 3 ["self", "at"] (spTItem C) fI fdI) (MF : PySem.W.fnIn K fI = true)
    (G : FnOk P w K mg base CX0 1 fN fdN ["number"] spNum) (b : Binds K fdN ["number"] []) (gN : mg "number_text" = some (.ref fN)) (kN : PySem.W.keepIn K (.ref fN) = true) : FnOk P w K mg base CX0 5 f fd ["table", "source"] (spRowT C) := by
  have nd := scRowT.nd
  refine F.ok scRowT (fun vs H Q E h => ?_) (fun cdv A outer s H vs Q E hr h => ?_)
  · obtain ⟨x, s, s0, ss, xs, r, rfl, _⟩ := h
    rfl
  · obtain ⟨x, sc, s0, ss, xs, r, rfl, sa, hs, hx, l6, wr, q⟩ := h
    refine ⟨_, pss_cons (ps_set (i := 2) nd rfl (Or.inl rfl) (pe_lst (pa_cons (pv 1) (StX.pa_star (pe_lc (own := [("use", 3)]) (g := gName 3) (tt := tYes) (te := tCall spNum [] E0 (tCons (tOp (Own.rIxOwn C (spTItem C)) (tVar 0) (tTup (tCons (tVar 1) (tCons (tVar 3) tNil)))) tNil)) rfl nd (pi_tup (pe_fld (pv 0) rfl)) (blkOk_by (N := NR) (sc := defScope sRowT) (by decide +kernel))
        (fun _ _ _ _ _ => pg_name (i := 3) nd rfl (Or.inl rfl)) (fun _ _ _ _ _ => pts_nil) (fun _ _ _ _ _ => pe_call G (hr.mono (by decide)) (by rfl) gN kN b .nil pass0 (pa_cons (Own.pe_ixOwn M MF hr (pv 0) (pe_tup (pa_cons (pv 1) (pa_cons (pv 3) pa_nil)))) pa_nil))) pa_nil))))
      (pss_cons (ps_if (pt_cmpR op_ne (pv 1) (pe_ix ix_tup (pe_fld (pv 0) rfl) pe_int (fun _ _ => rfl)) (nomark _)) (pss_one (ps_set (i := 2) nd rfl (Or.inl rfl) (pe_lst (pa_cons pe_str (StX.pa_star (pv 2) pa_nil))))) pss_nil)
      (pss_one (ps_ret (pe_join pe_str (pv 2))))), ?_⟩
    have sa' := sa
    obtain ⟨dx, n1, n2, dw, pp, prs, h1, h2, h3, h4, h5, h6⟩ := sa'
    have w0 : Walks (iTup K (tFld K (tVar 0) "uses")) [some (.ref x), some (.str sc), none, none] H (xs.map V.str) := walks_tup (g_fld rfl h1 S.cl S.nU rfl (⟨n2, rfl, h3⟩ : (tupV (xs.map V.str)).R (.ref n2) H))
    have z := comp_is (te := tCall spNum [] E0 (tCons (tOp (Own.rIxOwn C (spTItem C)) (tVar 0) (tTup (tCons (tVar 1) (tCons (tVar 3) tNil)))) tNil)) (tt := tYes) (i := 3) (vs := [3]) (fun _ => true) (fun v => match v with
      | .str u => V.str (numT (wk r (key2 sc u)))
      | _ => .non) w0 (by rw [List.length_map]; omega) (fun _ => rfl) (fun _ _ H2 _ Q h => h) (fun v hv _ => by
        obtain ⟨u, hu, rfl⟩ := List.mem_map.mp hv
        intro H1 e1 Q1 q1
        refine ⟨_, rfl, _, rfl, _, rfl, by show 2 ≤ sizeLine; decide, fun p hp => ?_⟩
        have e2 := Ex.new (o := .tup [.str sc, .str u]) hp
        exact ⟨tbl_ins (sa.mono (e1.trans e2)), x, p, s0 :: ss, xs, r, key2 sc u, rfl, sa.mono (e1.trans e2), upd_same, ⟨sc, u, rfl, hs, hx u hu⟩, _, rfl, (wr _).1, (wr _).2, fun H' e' => q1 _ H' (e2.trans e') rfl⟩)
    rw [List.filter_eq_self.mpr (fun _ _ => rfl), List.map_map] at z
    have ez : (xs.map ((fun v : V => match v with
      | .str u => V.str (numT (wk r (key2 sc u)))
      | _ => .non) ∘ V.str)) = (xs.map fun u => numT (wk r (key2 sc u))).map V.str := by
      rw [List.map_map]
      rfl
    rw [ez] at z
    obtain ⟨sm, sl⟩ := rowW_sum (r := r) hs l6 wr
    refine ⟨_, rfl, z H (Ex.refl H) _ fun v H1 e1 ⟨l, ev, hl⟩ => ⟨l, _, ev, .inr (SqL.of hl), ?_, fun p hp => ?_⟩⟩
    · rw [sizeLine_eq]
      simp only [List.length_append, List.length_cons, List.length_map, List.length_nil]
      omega
    have e2 := Ex.new (o := .lst (.str sc :: ((xs.map fun u => numT (wk r (key2 sc u))).map V.str ++ []))) hp
    have hp1 : upd H1 p (.lst (.str sc :: ((xs.map fun u => numT (wk r (key2 sc u))).map V.str ++ []))) p = some (.lst ((rowW sc xs r).map V.str)) := by
      rw [upd_same, List.append_nil]
      rfl
    generalize upd H1 p (.lst (.str sc :: ((xs.map fun u => numT (wk r (key2 sc u))).map V.str ++ []))) = H2 at e2 hp1 ⊢
    have e12 := e1.trans e2
    refine ⟨_, rfl, _, rfl, ?_⟩
    refine ⟨x, C, dx, _, _, rfl, e12 _ _ h1, S.cl, S.nS, rfl, n1, (s0 :: ss).map V.str, 0, .str s0, rfl, rfl, SqT.of (e12 _ _ h2), atI_nat (xs := (s0 :: ss).map V.str) (j := 0) rfl, rfl, _, rfl, ?_⟩
    have eqd : decide (V.str sc = V.str s0) = decide (sc = s0) := by
      by_cases c : sc = s0
      · rw [c]
        simp
      · have : ¬ V.str sc = V.str s0 := fun z => c (V.str.inj z)
        rw [decide_eq_false c, decide_eq_false this]
    rw [eqd]
    by_cases c : sc = s0
    · rw [decide_eq_true c]
      dsimp only [Bool.not_true, tNext]
      rw [if_neg (show ¬ (!true) = true by decide)]
      refine ⟨⟨_, rfl⟩, _, rfl, " ", p, rowW sc xs r, rfl, rfl, .inl (SqL.of hp1), ?_, ?_⟩
      · show _ + _ * 1 ≤ 16777216
        omega
      · have := q H2 e12
        unfold rowT at this
        rw [if_pos c] at this
        exact this
    · rw [decide_eq_false c]
      dsimp only [Bool.not_false]
      rw [if_pos (show (!false) = true by decide)]
      refine ⟨_, rfl, p, _, rfl, .inr (SqL.of hp1), ?_, fun p2 hp2 => ?_⟩
      · rw [sizeLine_eq]
        simp only [List.length_cons, List.length_append, List.length_map, List.length_nil]
        omega
      refine ⟨⟨_, rfl⟩, _, rfl, " ", p2, (";" : Str) :: rowW sc xs r, rfl, rfl, .inl (SqL.of (by rw [upd_same, List.append_nil]; rfl)), ?_, ?_⟩
      · rw [List.map_cons, List.sum_cons, List.length_cons]
        show 1 + _ + (_ + 1) * 1 ≤ 16777216
        omega
      · have := q _ (e12.trans (Ex.new (o := .lst (V.str ";" :: ((rowW sc xs r).map V.str ++ []))) hp2))
        unfold rowT at this
        rw [if_neg c] at this
        exact this
end
end Tb
namespace Tb
open PySem PySem.Spec PyProof.Rows L2 EvP Cm Fk DtE KyS XG
abbrev sTStr : Stmt := (match top 34 with
  | .ClassDef _ _ _ body _ _ _ _ _ _ _ => body.getD 24 (.Pass ⟨0, 0, 0, 0⟩)
  | _ => .Pass ⟨0, 0, 0, 0⟩)
theorem scTStr : FnScope ["self", "source"] ["self"] (defScope sTStr) := ⟨rfl, rfl, rfl, by decide +kernel, rfl, by decide +kernel, by decide +kernel⟩
def rowsT (ss xs : List Str) (r : TRow) : List Str := ss.map fun s => rowT (ss.headD s) s xs r
def tblT (ss xs : List Str) (r : TRow) : Str := Txt.join " " (xs ++ (":" : Str) :: rowsT ss xs r)
theorem rowT_len {s0 s : Str} {xs : List Str} {r : TRow} (hs : NameV (.str s)) (l : xs.length ≤ 6) (w : Wks r) : (rowT s0 s xs r).length ≤ 420 := by
  obtain ⟨a, b⟩ := rowW_sum (r := r) hs l w
  unfold rowT
  show (Builtin.Str.glued _ _).length ≤ 420
  rw [PySem.size_glued]
  have one : ((" " : String) : Str).length = 1 := rfl
  rw [one]
  split
  · omega
  · rw [List.map_cons, List.sum_cons, List.length_cons]
    have : ((";" : String) : Str).length = 1 := rfl
    rw [this]
    omega
def spTStr (C : Addr) : Sp := fun vs H Q _ => ∃ (x : Addr) (ss xs : List Str) (r : TRow), vs = [.ref x] ∧ TblAt C H x ss xs r ∧ (∀ u ∈ ss, NameV (.str u)) ∧ (∀ u ∈ xs, NameV (.str u)) ∧ ss.length ≤ 6 ∧ xs.length ≤ 6 ∧ Wks r ∧ ∀ H', Ex H H' → Q (.str (tblT ss xs r)) H'
section
variable {P : Program} {w : World} {K : PySem.W.Frag} {mg : Str → Option Value} {base : Heap} {C f fR : Addr} {fd fdR : FuncData}
theorem ok_tstr (F : Fun K "__str__" "Table.__str__" sTStr f fd) (S : TblC K C) (G : FnOk P w K mg base CX0 5 fR fdR ["table", "source"] (spRowT C)) (b : Binds K fdR ["table", "source"] []) (gR : mg "row_text" = some (.ref fR)) (kR : PySem.W.keepIn K (.ref fR) = true) : FnOk P w K mg base CX0 6 f fd ["self"] (spTStr C) := by
  have nd := scTStr.nd
  refine F.ok scTStr (fun vs H Q E h => ?_) (fun cdv A outer s H vs Q E hr h => ?_)
  · obtain ⟨x, ss, xs, r, rfl, _⟩ := h
    rfl
  · obtain ⟨x, ss, xs, r, rfl, sa, hs, hx, l5, l6, wr, q⟩ := h
    refine ⟨_, pss_one (ps_ret (pe_join pe_str (pe_lst (StX.pa_star (pe_fld (pv 0) rfl) (pa_cons pe_str (StX.pa_star (pe_lc (own := [("source", 1)]) (g := gName 1) (tt := tYes) (te := tCall (spRowT C) [] E0 (tCons (tVar 0) (tCons (tVar 1) tNil))) rfl nd (pi_tup (pe_fld (pv 0) rfl)) (blkOk_by (N := ["self", "source"]) (sc := defScope sTStr) (by decide +kernel))
        (fun _ _ _ _ _ => pg_name (i := 1) nd rfl (Or.inl rfl)) (fun _ _ _ _ _ => pts_nil) (fun _ _ _ _ _ => pe_call G hr (by rfl) gR kR b .nil pass0 (pa_cons (pv 0) (pa_cons (pv 1) pa_nil)))) pa_nil)))))), ?_⟩
    have sa' := sa
    obtain ⟨dx, n1, n2, dw, pp, prs, h1, h2, h3, h4, h5, h6⟩ := sa'
    have w0 : Walks (iTup K (tFld K (tVar 0) "sources")) [some (.ref x), none] H (ss.map V.str) := walks_tup (g_fld rfl h1 S.cl S.nS rfl (⟨n1, rfl, h2⟩ : (tupV (ss.map V.str)).R (.ref n1) H))
    have z := comp_is (te := tCall (spRowT C) [] E0 (tCons (tVar 0) (tCons (tVar 1) tNil))) (tt := tYes) (i := 1) (vs := [1]) (fun _ => true) (fun v => match v with
      | .str u => V.str (rowT (ss.headD u) u xs r)
      | _ => .non) w0 (by rw [List.length_map]; omega) (fun _ => rfl) (fun _ _ H2 _ Q h => h) (fun v hv _ => by
        obtain ⟨u, hu, rfl⟩ := List.mem_map.mp hv
        intro H1 e1 Q1 q1
        cases ss with
        | nil => cases hu
        | cons s0 st => exact ⟨_, rfl, _, rfl, x, u, s0, st, xs, r, rfl, sa.mono e1, hs u hu, hx, l6, wr, fun H' e' => q1 _ H' e' rfl⟩)
    rw [List.filter_eq_self.mpr (fun _ _ => rfl), List.map_map] at z
    have ez : (ss.map ((fun v : V => match v with
      | .str u => V.str (rowT (ss.headD u) u xs r)
      | _ => .non) ∘ V.str)) = (rowsT ss xs r).map V.str := by
      unfold rowsT
      rw [List.map_map]
      rfl
    rw [ez] at z
    have sum1 := sum_le (fun s : Str => (rowT (ss.headD s) s xs r).length) (n := 420) (l := ss) fun s hh => rowT_len (hs s hh) l6 wr
    have sum2 := sum_le (fun s : Str => s.length) (n := 8) (l := xs) fun s hh => name_le (hx s hh)
    have m1 : 420 * ss.length ≤ 420 * 6 := Nat.mul_le_mul_left _ l5
    have m2 : 8 * xs.length ≤ 8 * 6 := Nat.mul_le_mul_left _ l6
    have lr : (rowsT ss xs r).length = ss.length := List.length_map _
    refine ⟨⟨_, rfl⟩, _, rfl, x, C, dx, _, _, rfl, h1, S.cl, S.nU, rfl, n2, xs.map V.str, rfl, .inl (SqT.of h3), ?_⟩
    unfold tCons tC StX.tStar
    dsimp only
    refine z H (Ex.refl H) _ fun v H1 e1 ⟨l, ev, hl⟩ => ⟨l, (rowsT ss xs r).map V.str, ev, .inr (SqL.of hl), ?_, fun p hp => ?_⟩
    · rw [sizeLine_eq]
      simp only [List.length_append, List.length_cons, List.length_map, List.length_nil, lr]
      omega
    · refine ⟨" ", p, xs ++ (":" : Str) :: rowsT ss xs r, rfl, rfl, .inl (SqL.of (by rw [upd_same, List.map_append, List.append_nil]; rfl)), ?_, q _ (e1.trans (Ex.new hp))⟩
      rw [List.map_append, List.sum_append, List.map_cons, List.sum_cons, List.length_append, List.length_cons, lr]
      have e3 : ((rowsT ss xs r).map (·.length)).sum = (ss.map fun s => (rowT (ss.headD s) s xs r).length).sum := by
        unfold rowsT
        rw [List.map_map]
        rfl
      rw [e3]
      have c1 : ((":" : String) : Str).length = 1 := rfl
      have c2 : ((" " : String) : Str).length = 1 := rfl
      rw [c1, c2]
      have e4 : (xs.map (·.length)).sum = (xs.map fun s : Str => s.length).sum := rfl
      omega
end
end Tb

set_option Elab.async false
set_option linter.all false
set_option maxRecDepth 100000
set_option maxHeartbeats 4000000
/-! _law_plain: drawn names, drawn worths. -/
namespace K06
open PySem PySem.Spec PyProof.Rows L2
open DtE (TRow tents lookT valV_tents)
open Tb (key2 PairK Oks)
open Fk (NameV nameB)
open EvP (Ex)
abbrev sPlain : Stmt := top 41
abbrev NP : List Str := ["pen", "most", "pool", "sources_so", "uses_so", "found", "source", "use", "worth_so"]
theorem scPlain : FnScope NP ["pen", "most"] (defScope sPlain) := ⟨rfl, rfl, rfl, by decide +kernel, rfl, by decide +kernel, by decide +kernel⟩
def poolA : List Str := ["a", "b", "c", "d", "e", "f"]
def poolB : List Str := ["x", "b", "zzzzzzzz", "ab", "y", "a"]
def poolC : List Str := ["x", "y", "z", "u", "v", "w"]
def poolD : List Str := ["z", "y", "x", "a", "zzzzzzzz", "c"]
/-- names that a table takes -/
structure NamesOk (ss : List Str) : Prop where
  nod : ss.Nodup
  nm : ∀ n ∈ ss, NameV (.str n)
  few : ss.length ≤ 6
theorem namesOk_of {ss : List Str} (h : (decide ss.Nodup && ss.all nameB && decide (ss.length ≤ 6)) = true) : NamesOk ss := by
  simp only [Bool.and_eq_true, decide_eq_true_eq, List.all_eq_true] at h
  refine ⟨h.1.1, fun n hn => ⟨n, rfl, ?_, h.1.2 n hn⟩, h.2⟩
  have := (Tb.name_small (h.1.2 n hn)).1
  rw [sizeLine_eq]
  omega
/-- worths of pairs of these names -/
structure WorthsOk (ss xs : List Str) (r : TRow) : Prop where
  nod : (r.map (·.1)).Nodup
  key : ∀ t ∈ r, ∃ a ∈ ss, ∃ x ∈ xs, t.1 = key2 a x
  pos : ∀ t ∈ r, 0 < t.2 ∧ t.2 < 10 ^ 30
structure PlainAt (H : Hp) (v : V) (ss xs : List Str) (r : TRow) : Prop where
  ex : ∃ t a b d, v = .ref t ∧ H t = some (.tup [.ref a, .ref b, .ref d]) ∧ H a = some (.lst (ss.map V.str)) ∧ H b = some (.lst (xs.map V.str)) ∧ H d = some (.dT (tents r))
structure PlainOk (ss xs : List Str) (r : TRow) : Prop where
  s : NamesOk ss
  u : NamesOk xs
  w : WorthsOk ss xs r
def spPlain : Sp := fun vs H Q _ => ∃ (p q : Addr) (ns : List Int) (s g m : Int), vs = [.ref p, .int m] ∧ Pen H p q ns s g ∧ ns.length ≤ 63 ∧ 0 ≤ s ∧ s < 99000 ∧ 0 < m ∧ m ≤ 10 ^ 30 ∧
  ∀ (v : V) (ss xs : List Str) (r : TRow) (s' g' : Int) (H' : Hp), PlainOk ss xs r → PlainAt H' v ss xs r → s ≤ s' → s' ≤ s + 200 → Pen H' p q ns s' g' → But p H H' → Q v H'
theorem cut_str {l : List Str} (h : l.length = 6) (k : Int) (hk : k = 0 ∨ k = 1 ∨ k = 2 ∨ k = 3 ∨ k = 6) : cutV (l.map V.str) none (some k) = (l.take k.toNat).map V.str := by
  match l, h with
  | [a, b, c, d, e, f], _ => rcases hk with rfl | rfl | rfl | rfl | rfl <;> rfl
theorem pools_ok (k : Int) (hk : k = 0 ∨ k = 1 ∨ k = 2 ∨ k = 3 ∨ k = 6) : NamesOk (poolA.take k.toNat) ∧ NamesOk (poolB.take k.toNat) ∧ NamesOk (poolC.take k.toNat) ∧ NamesOk (poolD.take k.toNat) := by
  rcases hk with rfl | rfl | rfl | rfl | rfl <;> exact ⟨namesOk_of (by decide +kernel), namesOk_of (by decide +kernel), namesOk_of (by decide +kernel), namesOk_of (by decide +kernel)⟩
/-- some pairs are told, those of the sources before the i-th, and of it with the uses before the j-th -/
structure Mid (ss xs : List Str) (i j : Nat) (r : TRow) : Prop where
  nod : (r.map (·.1)).Nodup
  key : ∀ t ∈ r, ∃ a x, t.1 = key2 a x ∧ ((a ∈ ss.take i ∧ x ∈ xs) ∨ (ss[i]? = some a ∧ x ∈ xs.take j))
  pos : ∀ t ∈ r, 0 < t.2 ∧ t.2 < 10 ^ 30
theorem nodup_le {α : Type} [DecidableEq α] : ∀ {l m : List α}, l.Nodup → (∀ x ∈ l, x ∈ m) → l.length ≤ m.length
  | [], _, _, _ => Nat.zero_le _
  | x :: l, m, n, h => by
    rw [List.nodup_cons] at n
    have hx : x ∈ m := h x (.head _)
    have e := List.length_erase_of_mem hx
    have p : 0 < m.length := List.length_pos_of_mem hx
    have ih := nodup_le (m := m.erase x) n.2 fun y hy => (List.mem_erase_of_ne fun z => n.1 (by rw [← z]; exact hy)).mpr (h y (.tail _ hy))
    rw [List.length_cons]
    omega
theorem Mid.len {ss xs : List Str} {i j : Nat} {r : TRow} (m : Mid ss xs i j r) (hs : NamesOk ss) (hx : NamesOk xs) : r.length ≤ 1000 := by
  have sub : ∀ k ∈ r.map (·.1), k ∈ ss.flatMap fun a => xs.map fun x => key2 a x := fun k hk => by
    obtain ⟨t, ht, rfl⟩ := List.mem_map.mp hk
    obtain ⟨a, x, e, h⟩ := m.key t ht
    rw [e]
    rcases h with ⟨h1, h2⟩ | ⟨h1, h2⟩
    · exact List.mem_flatMap.mpr ⟨a, List.mem_of_mem_take h1, List.mem_map.mpr ⟨x, h2, rfl⟩⟩
    · exact List.mem_flatMap.mpr ⟨a, List.mem_of_getElem? h1, List.mem_map.mpr ⟨x, List.mem_of_mem_take h2, rfl⟩⟩
  have l1 : (r.map (·.1)).length ≤ (ss.flatMap fun a => xs.map fun x => key2 a x).length := by
    exact nodup_le m.nod sub
  rw [List.length_map, List.length_flatMap] at l1
  have l2 := Tb.sum_le (fun a : Str => (xs.map fun x => key2 a x).length) (n := 6) (l := ss) fun a _ => by rw [List.length_map]; exact hx.few
  have : 6 * ss.length ≤ 6 * 6 := Nat.mul_le_mul_left _ hs.few
  omega
theorem Mid.step_i {ss xs : List Str} {i : Nat} {r : TRow} {a : Str} (h : ss[i]? = some a) (m : Mid ss xs i xs.length r) : Mid ss xs (i + 1) 0 r := ⟨m.nod, fun t ht => by
  obtain ⟨b, x, e, h2⟩ := m.key t ht
  refine ⟨b, x, e, .inl ?_⟩
  rw [List.take_add_one, h]
  rcases h2 with ⟨h2, h3⟩ | ⟨h2, h3⟩
  · exact ⟨List.mem_append_left _ h2, h3⟩
  · rw [h] at h2
    rw [List.take_length] at h3
    exact ⟨List.mem_append_right _ (by rw [Option.some.inj h2]; exact List.mem_singleton.mpr rfl), h3⟩, m.pos⟩
theorem Mid.skip {ss xs : List Str} {i j : Nat} {r : TRow} (m : Mid ss xs i j r) : Mid ss xs i (j + 1) r := ⟨m.nod, fun t ht => by
  obtain ⟨b, x, e, h2⟩ := m.key t ht
  refine ⟨b, x, e, h2.imp id fun h3 => ⟨h3.1, ?_⟩⟩
  rw [List.take_add_one]
  exact List.mem_append_left _ h3.2, m.pos⟩
theorem take_no {l : List Str} (n : l.Nodup) {j : Nat} {x : Str} (h : l[j]? = some x) : x ∉ l.take j := fun m => by
  obtain ⟨t, ht, et⟩ := List.getElem_of_mem m
  rw [List.getElem_take] at et
  obtain ⟨jl, ej⟩ := List.getElem?_eq_some_iff.mp h
  have lt : t < j := by
    rw [List.length_take] at ht
    omega
  exact List.pairwise_iff_getElem.mp n t j (by rw [List.length_take] at ht; omega) jl lt (et.trans ej.symm)
theorem Mid.put {ss xs : List Str} {i j : Nat} {r : TRow} {a x : Str} {n : Int} (m : Mid ss xs i j r) (hs : NamesOk ss) (hx : NamesOk xs) (ha : ss[i]? = some a) (hu : xs[j]? = some x) (h0 : 0 < n) (h1 : n < 10 ^ 30) : Mid ss xs i (j + 1) (r ++ [(key2 a x, n)]) := by
  refine ⟨?_, fun t ht => ?_, fun t ht => ?_⟩
  · rw [List.map_append, List.nodup_append]
    refine ⟨m.nod, List.nodup_cons.mpr ⟨List.not_mem_nil, List.nodup_nil⟩, fun k hk k' hk' e => ?_⟩
    obtain ⟨t, ht, rfl⟩ := List.mem_map.mp hk
    obtain rfl := List.mem_singleton.mp hk'
    obtain ⟨b, y, e2, h⟩ := m.key t ht
    obtain ⟨rfl, rfl⟩ := Tb.key2_inj (e2.symm.trans e)
    rcases h with ⟨h2, _⟩ | ⟨_, h2⟩
    · exact take_no hs.nod ha h2
    · exact take_no hx.nod hu h2
  · rcases List.mem_append.mp ht with ht | ht
    · exact (Mid.skip m).key t ht
    · obtain rfl := List.mem_singleton.mp ht
      refine ⟨a, x, rfl, .inr ⟨ha, ?_⟩⟩
      rw [List.take_add_one, hu]
      exact List.mem_append_right _ (List.mem_singleton.mpr rfl)
  · rcases List.mem_append.mp ht with ht | ht
    · exact m.pos t ht
    · obtain rfl := List.mem_singleton.mp ht
      exact ⟨h0, h1⟩
theorem Mid.done {ss xs : List Str} {r : TRow} (m : Mid ss xs ss.length 0 r) : WorthsOk ss xs r := ⟨m.nod, (fun t ht => by
  obtain ⟨a, x, e, h⟩ := m.key t ht
  rcases h with ⟨h1, h2⟩ | ⟨h1, h2⟩
  · exact ⟨a, List.mem_of_mem_take h1, x, h2, e⟩
  · rw [List.take_zero] at h2
    cases h2), m.pos⟩
theorem But.new {p l : Addr} {H H' : Hp} {o : HO} (nl : H l = none) (h : But p (upd H l o) H') : But p H H' := fun b u hb ne => h b u (by
  rw [upd_ne (ne_of_none hb nl)]
  exact hb) ne
theorem Pen.new {H : Hp} {p q l : Addr} {ns : List Int} {s g : Int} {o : HO} (nl : H l = none) (h : Pen H p q ns s g) : Pen (upd H l o) p q ns s g := ⟨by
  rw [upd_ne (ne_of_none h.p nl)]
  exact h.p, by
  rw [upd_ne (ne_of_none h.q nl)]
  exact h.q⟩
theorem But.trans {p : Addr} {H H1 H2 : Hp} (a : But p H H1) (b : But p H1 H2) : But p H H2 := fun c o h n => b c o (a c o h n) n
theorem pick_ints {H : Hp} {p q : Addr} {ns : List Int} {s g : Int} {ks : List Int} {Q : VK} {E : XK} (hP : Pen H p q ns s g) (hl : ns.length ≤ 63) (h0 : 0 ≤ s) (h1 : s < 100000) (z0 : 0 < ks.length) (z1 : ks.length < 100000) {l : Addr} (nl : H l = none)
    (k : ∀ (n s' g' : Int) (H' : Hp), n ∈ ks → s ≤ s' → s' ≤ s + 1 → Pen H' p q ns s' g' → But p H H' → Q (.int n) H') : spPick [.ref p, .ref l] (upd H l (.lst (ks.map V.int))) Q E :=
  ⟨p, q, ns, s, g, l, ks.map V.int, rfl, hP.new nl, hl, h0, h1, upd_same, (ne_of_none hP.p nl).symm, by rw [List.length_map]; exact z0, by rw [List.length_map]; exact z1, fun v s' g' H' hv a1 a2 a3 a4 => by
    obtain ⟨n, hn, rfl⟩ := List.mem_map.mp hv
    exact k n s' g' H' hn a1 a2 a3 (a4.new nl)⟩
theorem pick_lists {H : Hp} {p q : Addr} {ns : List Int} {s g : Int} {X Y : List Str} {Q : VK} {E : XK} (hP : Pen H p q ns s g) (hl : ns.length ≤ 63) (h0 : 0 ≤ s) (h1 : s < 100000) {l1 l2 l3 : Addr} (n1 : H l1 = none) (n2 : upd H l1 (.lst (X.map V.str)) l2 = none)
    (n3 : upd (upd H l1 (.lst (X.map V.str))) l2 (.lst (Y.map V.str)) l3 = none)
    (k : ∀ (a : Addr) (ss : List Str) (s' g' : Int) (H' : Hp), ss = X ∨ ss = Y → H' a = some (.lst (ss.map V.str)) → a ≠ p → s ≤ s' → s' ≤ s + 1 → Pen H' p q ns s' g' → But p H H' → Q (.ref a) H') :
    spPick [.ref p, .ref l3] (upd (upd (upd H l1 (.lst (X.map V.str))) l2 (.lst (Y.map V.str))) l3 (.lst [.ref l1, .ref l2])) Q E := by
  have p1 := hP.new (o := .lst (X.map V.str)) n1
  have p2 := p1.new (o := .lst (Y.map V.str)) n2
  have p3 := p2.new (o := .lst [.ref l1, .ref l2]) n3
  have a1 : upd (upd (upd H l1 (.lst (X.map V.str))) l2 (.lst (Y.map V.str))) l3 (.lst [.ref l1, .ref l2]) l1 = some (.lst (X.map V.str)) := by
    have z : upd H l1 (.lst (X.map V.str)) l1 = some (.lst (X.map V.str)) := upd_same
    have z2 := Ex.new (o := .lst (Y.map V.str)) n2 _ _ z
    exact Ex.new (o := .lst [.ref l1, .ref l2]) n3 _ _ z2
  have a2 : upd (upd (upd H l1 (.lst (X.map V.str))) l2 (.lst (Y.map V.str))) l3 (.lst [.ref l1, .ref l2]) l2 = some (.lst (Y.map V.str)) := Ex.new (o := .lst [.ref l1, .ref l2]) n3 _ _ upd_same
  have e1 : l1 ≠ p := (ne_of_none hP.p n1).symm
  have e2 : l2 ≠ p := (ne_of_none p1.p n2).symm
  refine ⟨p, q, ns, s, g, l3, [.ref l1, .ref l2], rfl, p3, hl, h0, h1, upd_same, (ne_of_none p2.p n3).symm, by show 0 < 2; decide, by show 2 < 100000; decide, fun v s' g' H' hv b1 b2 b3 b4 => ?_⟩
  have bt := ((b4.new n3).new n2).new n1
  rcases List.mem_cons.mp hv with rfl | hv
  · exact k l1 X s' g' H' (.inl rfl) (b4 _ _ a1 e1) e1 b1 b2 b3 bt
  · obtain rfl := List.mem_singleton.mp hv
    exact k l2 Y s' g' H' (.inr rfl) (b4 _ _ a2 e2) e2 b1 b2 b3 bt
/-- what is kept while worths are drawn -/
def Kept (p d : Addr) (H H' : Hp) : Prop := ∀ b o, H b = some o → b ≠ p → b ≠ d → H' b = some o
section
variable {P : Program} {w : World} {K : PySem.W.Frag} {mg : Str → Option Value} {base : Heap} {f fD fP : Addr} {fd fdD fdP : FuncData}
theorem ok_plain (F : Fun K "_law_plain" "_law_plain" sPlain f fd) (GP : FnOk P w K mg base CX0 2 fP fdP ["pen", "some"] spPick) (bP : Binds K fdP ["pen", "some"] []) (gP : mg "_law_pick" = some (.ref fP)) (kP : PySem.W.keepIn K (.ref fP) = true)
    (G : FnOk P w K mg base CX0 1 fD fdD ["pen", "many"] spDraw) (b : Binds K fdD ["pen", "many"] []) (gD : mg "_law_draw" = some (.ref fD)) (kD : PySem.W.keepIn K (.ref fD) = true) : FnOk P w K mg base CX0 3 f fd ["pen", "most"] spPlain := by
  have nd := scPlain.nd
  refine F.ok scPlain (fun vs H Q E h => ?_) (fun cdv A outer s H vs Q E hr h => ?_)
  · obtain ⟨p, q, ns, s, g, m, rfl, _⟩ := h
    rfl
  · obtain ⟨p, q, ns, s, g, m, rfl, hP, hl, h0, h1, m0, m1, k⟩ := h
    refine ⟨_, pss_cons (ps_set (i := 2) nd rfl (Or.inl rfl) (pe_call GP hr (by rfl) gP kP bP .nil pass0 (pa_cons (pv 0) (pa_cons (pe_lst (pa_cons (pe_lst (pa_cons pe_str (pa_cons pe_str (pa_cons pe_str (pa_cons pe_str (pa_cons pe_str (pa_cons pe_str pa_nil)))))))
        (pa_cons (pe_lst (pa_cons pe_str (pa_cons pe_str (pa_cons pe_str (pa_cons pe_str (pa_cons pe_str (pa_cons pe_str pa_nil))))))) pa_nil))) pa_nil))))
      (pss_cons (ps_set (i := 3) nd rfl (Or.inl rfl) (pe_slice sl_list (pv 2) po_none (po_some (pe_call GP hr (by rfl) gP kP bP .nil pass0 (pa_cons (pv 0) (pa_cons (pe_lst (pa_cons pe_int (pa_cons pe_int (pa_cons pe_int (pa_cons pe_int (pa_cons pe_int (pa_cons pe_int pa_nil))))))) pa_nil))))))
      (pss_cons (ps_set (i := 4) nd rfl (Or.inl rfl) (pe_call GP hr (by rfl) gP kP bP .nil pass0 (pa_cons (pv 0) (pa_cons (pe_lst (pa_cons (pe_lst (pa_cons pe_str (pa_cons pe_str (pa_cons pe_str (pa_cons pe_str (pa_cons pe_str (pa_cons pe_str pa_nil)))))))
        (pa_cons (pe_lst (pa_cons pe_str (pa_cons pe_str (pa_cons pe_str (pa_cons pe_str (pa_cons pe_str (pa_cons pe_str pa_nil))))))) pa_nil))) pa_nil))))
      (pss_cons (ps_set (i := 4) nd rfl (Or.inl rfl) (pe_slice sl_list (pv 4) po_none (po_some (pe_call GP hr (by rfl) gP kP bP .nil pass0 (pa_cons (pv 0) (pa_cons (pe_lst (pa_cons pe_int (pa_cons pe_int (pa_cons pe_int (pa_cons pe_int (pa_cons pe_int (pa_cons pe_int pa_nil))))))) pa_nil))))))
      (pss_cons (ps_set (i := 5) nd rfl (Or.inl rfl) pe_dnewT)
      (pss_cons (ps_for PassesOwn.never rfl (pi_list (pv 3)) (pg_name (i := 6) nd rfl (Or.inl rfl)) (pss_one (ps_for PassesOwn.never rfl (pi_list (pv 4)) (pg_name (i := 7) nd rfl (Or.inl rfl))
        (pss_cons (ps_set (i := 8) nd rfl (Or.inl rfl) (pe_call GP hr (by rfl) gP kP bP .nil pass0 (pa_cons (pv 0) (pa_cons (pe_lst (pa_cons pe_int (pa_cons pe_int (pa_cons pe_int (pa_cons (pe_op op_add pe_int (pe_call G (hr.mono (by decide)) (by rfl) gD kD b .nil pass0 (pa_cons (pv 0) (pa_cons pe_int pa_nil))))
          (pa_cons (pe_call G (hr.mono (by decide)) (by rfl) gD kD b .nil pass0 (pa_cons (pv 0) (pa_cons (pv 1) pa_nil))) pa_nil)))))) pa_nil))))
        (pss_one (ps_if (pt_cmpR op_gt (pv 8) pe_int (nomark _)) (pss_one (ps_dput (hu_of hr) (pv 5) (pe_tup (pa_cons (pv 6) (pa_cons (pv 7) pa_nil))) (pv 8) rfl)) pss_nil))))))
      (pss_one (ps_ret (pe_tup (pa_cons (pv 3) (pa_cons (pv 4) (pa_cons (pv 5) pa_nil))))))))))), ?_⟩
    -- pool
    refine ⟨_, rfl, by show 6 ≤ sizeLine; decide, fun l1 n1 => ⟨by show 6 ≤ sizeLine; decide, fun l2 n2 => ⟨by show 2 ≤ sizeLine; decide, fun l3 n3 => ?_⟩⟩⟩
    refine pick_lists (E := E0) (X := poolA) (Y := poolB) hP hl h0 (by omega) n1 n2 n3 fun a1 P1 s1 g1 H1 c1 ha1 na1 u1 v1 hP1 b1 => ?_
    -- sources_so
    refine ⟨_, rfl, _, rfl, by show 6 ≤ sizeLine; decide, fun l4 n4 => ?_⟩
    refine pick_ints (E := E0) (ks := [1, 2, 2, 3, 6, 0]) hP1 hl (by omega) (by omega) (by decide) (by decide) n4 fun k1 s2 g2 H2 hk1 u2 v2 hP2 b2 => ⟨k1, rfl, a1, _, rfl, SqL.of (b2 _ _ ha1 na1), fun a3 n5 => ?_⟩
    have kk1 : k1 = 0 ∨ k1 = 1 ∨ k1 = 2 ∨ k1 = 3 ∨ k1 = 6 := by
      simp only [List.mem_cons, List.not_mem_nil, or_false] at hk1
      omega
    have P16 : P1.length = 6 := by rcases c1 with rfl | rfl <;> rfl
    have ok1 : NamesOk (P1.take k1.toNat) := by
      rcases c1 with rfl | rfl
      · exact (pools_ok k1 kk1).1
      · exact (pools_ok k1 kk1).2.1
    rw [cut_str P16 k1 kk1]
    generalize P1.take k1.toNat = ss at ok1
    have e3 := Ex.new (o := .lst (ss.map V.str)) n5
    have ha3 : upd H2 a3 (.lst (ss.map V.str)) a3 = some (.lst (ss.map V.str)) := upd_same
    have na3 : a3 ≠ p := (ne_of_none hP2.p n5).symm
    have hP3 := hP2.new (o := .lst (ss.map V.str)) n5
    have b3 : But p H (upd H2 a3 (.lst (ss.map V.str))) := fun c o hc ne => e3 _ _ (b2 _ _ (b1 _ _ hc ne) ne)
    generalize upd H2 a3 (.lst (ss.map V.str)) = H3 at ha3 hP3 b3 ⊢
    -- uses_so
    refine ⟨_, rfl, by show 6 ≤ sizeLine; decide, fun l5 n6 => ⟨by show 6 ≤ sizeLine; decide, fun l6 n7 => ⟨by show 2 ≤ sizeLine; decide, fun l7 n8 => ?_⟩⟩⟩
    refine pick_lists (E := E0) (X := poolC) (Y := poolD) hP3 hl (by omega) (by omega) n6 n7 n8 fun a4 P2 s4 g4 H4 c2 ha4 na4 u4 v4 hP4 b4 => ?_
    refine ⟨_, rfl, _, rfl, by show 6 ≤ sizeLine; decide, fun l9 n9 => ?_⟩
    refine pick_ints (E := E0) (ks := [1, 2, 2, 3, 6, 0]) hP4 hl (by omega) (by omega) (by decide) (by decide) n9 fun k2 s5 g5 H5 hk2 u5 v5 hP5 b5 => ⟨k2, rfl, a4, _, rfl, SqL.of (b5 _ _ ha4 na4), fun a5 n10 => ?_⟩
    have kk2 : k2 = 0 ∨ k2 = 1 ∨ k2 = 2 ∨ k2 = 3 ∨ k2 = 6 := by
      simp only [List.mem_cons, List.not_mem_nil, or_false] at hk2
      omega
    have P26 : P2.length = 6 := by rcases c2 with rfl | rfl <;> rfl
    have ok2 : NamesOk (P2.take k2.toNat) := by
      rcases c2 with rfl | rfl
      · exact (pools_ok k2 kk2).2.2.1
      · exact (pools_ok k2 kk2).2.2.2
    rw [cut_str P26 k2 kk2]
    generalize P2.take k2.toNat = xs at ok2
    have e6 := Ex.new (o := .lst (xs.map V.str)) n10
    have ha5 : upd H5 a5 (.lst (xs.map V.str)) a5 = some (.lst (xs.map V.str)) := upd_same
    have na5 : a5 ≠ p := (ne_of_none hP5.p n10).symm
    have hP6 := hP5.new (o := .lst (xs.map V.str)) n10
    have b6 : But p H3 (upd H5 a5 (.lst (xs.map V.str))) := fun c o hc ne => e6 _ _ (b5 _ _ (b4 _ _ hc ne) ne)
    have ha3' := b6 _ _ ha3 na3
    have b36 := b3.trans b6
    generalize upd H5 a5 (.lst (xs.map V.str)) = H6 at ha5 hP6 b36 ha3' ⊢
    -- found
    intro d nd'
    have dp : d ≠ p := (ne_of_none hP6.p nd').symm
    have d3 : a3 ≠ d := ne_of_none ha3' nd'
    have d5 : a5 ≠ d := ne_of_none ha5 nd'
    have hd : upd H6 d (.dT []) d = some (.dT (tents [])) := upd_same
    have hP7 := hP6.new (o := .dT []) nd'
    have ha37 := Ex.new (o := .dT []) nd' _ _ ha3'
    have ha57 := Ex.new (o := .dT []) nd' _ _ ha5
    have b7 : ∀ c o, H c = some o → c ≠ p → upd H6 d (.dT []) c = some o ∧ c ≠ d := fun c o hc ne => ⟨Ex.new (o := .dT []) nd' _ _ (b36 _ _ hc ne), ne_of_none (b36 _ _ hc ne) nd'⟩
    generalize upd H6 d (.dT []) = H7 at hd hP7 ha37 ha57 b7 ⊢
    have qp : q ≠ p := hP.ne.symm
    have qd : ∀ {H' : Hp} {g' s' : Int} {r : TRow}, Pen H' p q ns s' g' → H' d = some (.dT (tents r)) → q ≠ d := fun x y => ne_of x.q y (fun z => nomatch z)
    refine ⟨_, rfl, a3, rfl, ⟨_, SqL.of ha37⟩, for_list (xs := ss.map V.str) (fun i sg H' => ∃ (s' g' : Int) (o6 o7 o8 : Option V) (r : TRow), sg = [some (.ref p), some (.int m), some (.ref a1), some (.ref a3), some (.ref a5), some (.ref d), o6, o7, o8] ∧ Pen H' p q ns s' g' ∧ s ≤ s' ∧ s' ≤ s + 4 + 18 * i ∧ H' d = some (.dT (tents r)) ∧ Mid ss xs i 0 r ∧ Kept p d H7 H')
      ⟨s5, g5, none, none, none, [], rfl, hP7, by omega, by omega, hd, ⟨List.nodup_nil, (fun t ht => nomatch ht), (fun t ht => nomatch ht)⟩, fun _ _ h _ _ => h⟩ (fun i sg H' _ ⟨_, _, _, _, _, _, _, _, _, _, _, _, kp⟩ => SqL.of (kp _ _ ha37 na3 d3)) (fun i z sg H' hi ⟨s', g', o6, o7, o8, r, esg, pn, i1, i2, i3, i4, kp⟩ => ?_) (fun sg H' ⟨s', g', o6, o7, o8, r, esg, pn, i1, i2, i3, i4, kp⟩ => ?_)⟩
    · subst esg
      rw [List.getElem?_map] at hi
      obtain ⟨a, ha, rfl⟩ := Option.map_eq_some_iff.mp hi
      have ilt : i < ss.length := (List.getElem?_eq_some_iff.mp ha).1
      have il : i < 6 := Nat.lt_of_lt_of_le ilt ok1.few
      refine ⟨_, rfl, a5, rfl, ⟨_, SqL.of (kp _ _ ha57 na5 d5)⟩, for_list (xs := xs.map V.str) (fun j sg H' => ∃ (s' g' : Int) (o7 o8 : Option V) (r : TRow), sg = [some (.ref p), some (.int m), some (.ref a1), some (.ref a3), some (.ref a5), some (.ref d), some (.str a), o7, o8] ∧ Pen H' p q ns s' g' ∧ s ≤ s' ∧ s' ≤ s + 4 + 18 * i + 3 * j ∧ H' d = some (.dT (tents r)) ∧ Mid ss xs i j r ∧ Kept p d H7 H')
        ⟨s', g', o7, o8, r, rfl, pn, i1, by omega, i3, i4, kp⟩ (fun j sg H' _ ⟨_, _, _, _, _, _, _, _, _, _, _, kp⟩ => SqL.of (kp _ _ ha57 na5 d5)) (fun j z sg H' hj ⟨s', g', o7, o8, r, esg, pn, i1, i2, i3, i4, kp⟩ => ?_) (fun sg H' ⟨s', g', o7, o8, r, esg, pn, i1, i2, i3, i4, kp⟩ => ?_)⟩
      · subst esg
        rw [List.getElem?_map] at hj
        obtain ⟨u, hu, rfl⟩ := Option.map_eq_some_iff.mp hj
        have jlt : j < xs.length := (List.getElem?_eq_some_iff.mp hu).1
        have jl : j < 6 := Nat.lt_of_lt_of_le jlt ok2.few
        refine ⟨_, rfl, _, rfl, p, q, ns, s', g', 9, rfl, pn, hl, by omega, by omega, by decide, by decide, fun w1 sa ga Ha wa wb sa1 sa2 pna ba => ⟨1, w1, rfl, rfl, ?_⟩⟩
        refine ⟨_, rfl, _, rfl, p, q, ns, sa, ga, m, rfl, pna, hl, by omega, by omega, m0, m1, fun w2 sb gb Hb wc wd sb1 sb2 pnb bb => ⟨by show 5 ≤ sizeLine; decide, fun l nl => ?_⟩⟩
        refine pick_ints (E := E0) (ks := [0, 0, 1, 1 + w1, w2]) pnb hl (by omega) (by omega) (by show 0 < 5; decide) (by show 5 < 100000; decide) nl fun n sc gc Hc hn sc1 sc2 pnc bc => ?_
        have n30 : n < 10 ^ 30 := by
          simp only [List.mem_cons, List.not_mem_nil, or_false] at hn
          omega
        have kept : Kept p d H' Hc := fun c o hc ne _ => bc _ _ (bb _ _ (ba _ _ hc ne) ne) ne
        have kp2 : Kept p d H7 Hc := fun c o hc n1 n2 => kept _ _ (kp _ _ hc n1 n2) n1 n2
        have hdc : Hc d = some (.dT (tents r)) := bc _ _ (bb _ _ (ba _ _ i3 dp) dp) dp
        refine ⟨_, rfl, n, 0, rfl, rfl, _, rfl, ?_⟩
        by_cases c : 0 < n
        · rw [decide_eq_true c]
          dsimp only
          rw [if_pos rfl]
          refine ⟨_, rfl, _, rfl, _, rfl, _, rfl, by show 2 ≤ sizeLine; decide, fun t nt => ?_⟩
          have e9 := Ex.new (o := .tup [.str a, .str u]) nt
          have hd9 := e9 _ _ hdc
          have m9 := i4.put ok1 ok2 ha hu c n30
          have lr := i4.len ok1 ok2
          refine ⟨d, _, rfl, DPut.t (k := key2 a u) hd9 upd_same (by unfold tents; rw [List.length_map, sizeLine_eq]; omega), ?_⟩
          rw [Tb.tents_put m9.nod]
          refine ⟨sc, gc, _, _, r ++ [(key2 a u, n)], rfl, ⟨?_, ?_⟩, by omega, by omega, upd_same, m9, fun x o hx n1 n2 => ?_⟩
          · rw [upd_ne dp.symm]
            exact e9 _ _ pnc.p
          · rw [upd_ne (qd pnc hdc)]
            exact e9 _ _ pnc.q
          · rw [upd_ne n2]
            exact e9 _ _ (kp2 _ _ hx n1 n2)
        · rw [decide_eq_false c]
          dsimp only [tNext]
          rw [if_neg Bool.false_ne_true]
          exact ⟨sc, gc, _, _, r, rfl, pnc, by omega, by omega, hdc, i4.skip, kp2⟩
      · subst esg
        rw [List.length_map] at i2 i4
        have : xs.length ≤ 6 := ok2.few
        exact ⟨s', g', _, _, _, r, rfl, pn, i1, by omega, i3, i4.step_i ha, kp⟩
    · subst esg
      rw [List.length_map] at i2 i4
      have : ss.length ≤ 6 := ok1.few
      refine ⟨_, rfl, _, rfl, _, rfl, by show 3 ≤ sizeLine; decide, fun t nt => ?_⟩
      have e9 := Ex.new (o := .tup [.ref a3, .ref a5, .ref d]) nt
      exact k (.ref t) ss xs r s' g' _ ⟨ok1, ok2, i4.done⟩ ⟨t, a3, a5, d, rfl, upd_same, e9 _ _ (kp _ _ ha37 na3 d3), e9 _ _ (kp _ _ ha57 na5 d5), e9 _ _ i3⟩ i1 (by omega) (pn.new nt) fun c o hc ne => e9 _ _ (kp _ _ (b7 _ _ hc ne).1 ne (b7 _ _ hc ne).2)
end
end K06

set_option Elab.async false
set_option linter.all false
set_option maxRecDepth 100000
set_option maxHeartbeats 4000000
/-! _law_rows: the rows that a table is made of. -/
namespace K06
open PySem PySem.Spec PyProof.Rows L2
open DtE (TRow tents lookT valV_tents)
open Tb (key2 PairK Oks Tab TabAt TabOk worths wk rowsO)
open Fk (NameV nameB ents)
open EvP (Ex)
abbrev sRows : Stmt := top 43
abbrev NW : List Str := ["pen", "plain", "sources_so", "uses_so", "found", "rows_so", "turned", "source", "row", "some", "use"]
theorem scRows : FnScope NW ["pen", "plain"] (defScope sRows) := ⟨rfl, rfl, rfl, by decide +kernel, rfl, by decide +kernel, by decide +kernel⟩
/-- a row of the worths r: some of the names, each with its worth, all of those with a worth among them -/
structure RowOf (r : TRow) (a : Str) (xs : List Str) (row : Fk.Row) : Prop where
  nod : (row.map (·.1)).Nodup
  mem : ∀ e ∈ row, e.1 ∈ xs ∧ e.2 = wk r (key2 a e.1)
  all : ∀ x ∈ xs, (lookT r (key2 a x)).isSome = true → x ∈ row.map (·.1)
/-- the rows of these sources -/
structure TabOf (r : TRow) (L xs : List Str) (T : Tab) : Prop where
  names : T.map (·.1) = L
  nodA : (T.map (·.2.1)).Nodup
  row : ∀ t ∈ T, RowOf r t.1 xs t.2.2
def spRows : Sp := fun vs H Q _ => ∃ (p q : Addr) (ns : List Int) (s g : Int) (v : V) (ss xs : List Str) (r : TRow), vs = [.ref p, v] ∧ Pen H p q ns s g ∧ ns.length ≤ 63 ∧ 0 ≤ s ∧ s < 99000 ∧ PlainAt H v ss xs r ∧ (∀ c, v = .ref c → c ≠ p) ∧ PlainOk ss xs r ∧
  ∀ (t d u : Addr) (T : Tab) (L : List Str) (s' g' : Int) (H' : Hp), H' t = some (.tup [.ref d, .ref u]) → TabAt H' d T → L.Perm ss → TabOf r L xs T → H' u = some (.lst (xs.map V.str)) → s ≤ s' → s' ≤ s + 100 → Pen H' p q ns s' g' → But p H H' → Q (.ref t) H'
theorem strs_ne {H : Hp} {p q a : Addr} {ns : List Int} {s g : Int} {ss : List Str} (hP : Pen H p q ns s g) (h : H a = some (.lst (ss.map V.str))) : a ≠ p := fun e => by
  rw [e, hP.p] at h
  have z := HO.lst.inj (Option.some.inj h)
  match ss, z with
  | [], z => cases z
  | x :: r, z => cases (List.cons.inj z).1
/-- a row amid its making -/
structure RowMid (r : TRow) (a : Str) (M : List Str) (j : Nat) (row : Fk.Row) : Prop where
  nod : (row.map (·.1)).Nodup
  mem : ∀ e ∈ row, e.1 ∈ M.take j ∧ e.2 = wk r (key2 a e.1)
  all : ∀ x ∈ M.take j, (lookT r (key2 a x)).isSome = true → x ∈ row.map (·.1)
theorem RowMid.put {r : TRow} {a x : Str} {M : List Str} {j : Nat} {row : Fk.Row} (m : RowMid r a M j row) (n : M.Nodup) (h : M[j]? = some x) : RowMid r a M (j + 1) (row ++ [(x, wk r (key2 a x))]) := by
  have tk : M.take (j + 1) = M.take j ++ [x] := by
    rw [List.take_add_one, h]
    rfl
  refine ⟨?_, fun e he => ?_, fun y hy iy => ?_⟩
  · rw [List.map_append, List.nodup_append]
    refine ⟨m.nod, List.nodup_cons.mpr ⟨List.not_mem_nil, List.nodup_nil⟩, fun k hk k' hk' e => ?_⟩
    obtain ⟨z, hz, rfl⟩ := List.mem_map.mp hk
    obtain rfl := List.mem_singleton.mp hk'
    exact take_no n h (by rw [← e]; exact (m.mem z hz).1)
  · rw [tk]
    rcases List.mem_append.mp he with he | he
    · exact ⟨List.mem_append_left _ (m.mem e he).1, (m.mem e he).2⟩
    · obtain rfl := List.mem_singleton.mp he
      exact ⟨List.mem_append_right _ (List.mem_singleton.mpr rfl), rfl⟩
  · rw [tk] at hy
    rw [List.map_append]
    rcases List.mem_append.mp hy with hy | hy
    · exact List.mem_append_left _ (m.all y hy iy)
    · obtain rfl := List.mem_singleton.mp hy
      exact List.mem_append_right _ (List.mem_singleton.mpr rfl)
theorem RowMid.skip {r : TRow} {a x : Str} {M : List Str} {j : Nat} {row : Fk.Row} (m : RowMid r a M j row) (h : M[j]? = some x) (no : (lookT r (key2 a x)).isSome = false) : RowMid r a M (j + 1) row := by
  have tk : M.take (j + 1) = M.take j ++ [x] := by
    rw [List.take_add_one, h]
    rfl
  refine ⟨m.nod, fun e he => ?_, fun y hy iy => ?_⟩
  · rw [tk]
    exact ⟨List.mem_append_left _ (m.mem e he).1, (m.mem e he).2⟩
  · rw [tk] at hy
    rcases List.mem_append.mp hy with hy | hy
    · exact m.all y hy iy
    · obtain rfl := List.mem_singleton.mp hy
      rw [no] at iy
      cases iy
theorem ents_new {row : Fk.Row} {x : Str} {n : Int} (h : x ∉ row.map (·.1)) : putK (ents row) (Sum.inr x) (.int n) = ents (row ++ [(x, n)]) := by
  have z : valV (ents row) (Sum.inr x) = none := by
    have no : ¬ ((ents row).any fun kv => decide (kv.1 = (Sum.inr x : Key))) = true := fun y => by
      obtain ⟨e, he, ee⟩ := List.any_eq_true.mp y
      unfold ents at he
      obtain ⟨t, ht, rfl⟩ := List.mem_map.mp he
      exact h (List.mem_map.mpr ⟨t, ht, Sum.inr.inj (of_decide_eq_true ee)⟩)
    rw [valV_any] at no
    simpa using no
  rw [putK_new _ z]
  unfold ents
  rw [List.map_append]
  rfl
theorem rows_new {T : Tab} {x : Str} {d : Addr} {row : Fk.Row} (h : x ∉ T.map (·.1)) : putK (T.map fun t => ((Sum.inr t.1 : Key), V.ref t.2.1)) (Sum.inr x) (.ref d) = (T ++ [(x, d, row)]).map fun t => (Sum.inr t.1, V.ref t.2.1) := by
  have z : valV (T.map fun t => ((Sum.inr t.1 : Key), V.ref t.2.1)) (Sum.inr x) = none := by
    have no : ¬ ((T.map fun t => ((Sum.inr t.1 : Key), V.ref t.2.1)).any fun kv => decide (kv.1 = (Sum.inr x : Key))) = true := fun y => by
      obtain ⟨e, he, ee⟩ := List.any_eq_true.mp y
      obtain ⟨t, ht, rfl⟩ := List.mem_map.mp he
      exact h (List.mem_map.mpr ⟨t, ht, Sum.inr.inj (of_decide_eq_true ee)⟩)
    rw [valV_any] at no
    simpa using no
  rw [putK_new _ z, List.map_append]
  rfl
/-- a list of names, or it turned about -/
theorem g_rev {K : PySem.W.Frag} {σ : L2.St} {H : Hp} {m : Nat} {a : Addr} {ss : List Str} {Q : VK} {c : Bool} (hm : σ[m]? = some (some (.ref a))) (ha : H a = some (.lst (ss.map V.str))) (k : ∀ (la : Addr) (L : List Str) (H' : Hp), L.Perm ss → H' la = some (.lst (L.map V.str)) → Ex H H' → Q (.ref la) H') :
    if c = true then tRevL K (tVar m) σ H Q else tVar m σ H Q := by
  cases c with
  | true =>
    rw [if_pos rfl]
    exact ⟨_, hm, a, _, rfl, SqL.of ha, fun p hp => k p ss.reverse _ (List.reverse_perm _) (by rw [upd_same, List.map_reverse]) (Ex.new hp)⟩
  | false =>
    rw [if_neg Bool.false_ne_true]
    exact ⟨_, hm, k a ss H (List.Perm.refl _) ha (Ex.refl H)⟩
theorem getD_wk (r : TRow) (k : List Key) : (valV (tents r) k).getD (.int 0) = .int (wk r k) := by
  rw [valV_tents]
  unfold wk
  cases lookT r k <;> rfl
/-- row[use] = found.get((source, use), 0) -/
theorem put_at {σ : L2.St} {Hx : Hp} {D : Ends} {dr d : Addr} {sc u : Str} {r : TRow} {row : Fk.Row} (h8 : σ[8]? = some (some (.ref dr))) (h10 : σ[10]? = some (some (.str u))) (h4 : σ[4]? = some (some (.ref d))) (h7 : σ[7]? = some (some (.str sc)))
    (hr : Hx dr = some (.dK (ents row))) (hd : Hx d = some (.dT (tents r))) (no : u ∉ row.map (·.1)) (few : row.length ≤ 100) (k : ∀ Hy : Hp, (∀ c o, Hx c = some o → c ≠ dr → Hy c = some o) → Hy dr = some (.dK (ents (row ++ [(u, wk r (key2 sc u))]))) → D.nx σ Hy) :
    sDPut (tVar 8) (tVar 10) (tDGet2 (tVar 4) (tTup (tCons (tVar 7) (tCons (tVar 10) tNil))) (tC (.int 0))) D σ Hx := by
  refine ⟨_, h4, d, rfl, .inr ⟨_, .inl hd⟩, _, h7, _, h10, by show 2 ≤ sizeLine; decide, fun tq nq => ?_⟩
  have e := Ex.new (o := .tup [.str sc, .str u]) nq
  refine ⟨_, DGet.t (k := key2 sc u) (e _ _ hd) upd_same, ?_⟩
  rw [getD_wk]
  refine ⟨_, h8, _, h10, dr, _, rfl, DPut.k (k := Sum.inr u) (e _ _ hr) (by unfold ents; rw [List.length_map, sizeLine_eq]; omega), ?_⟩
  rw [ents_new no]
  exact k _ (fun c o hc ne => by
    rw [upd_ne ne]
    exact e _ _ hc) upd_same
section
variable {P : Program} {w : World} {K : PySem.W.Frag} {mg : Str → Option Value} {base : Heap} {f fD : Addr} {fd fdD : FuncData}
theorem ok_rows (F : Fun K "_law_rows" "_law_rows" sRows f fd) (T : Blt mg)
    (G : FnOk P w K mg base CX0 1 fD fdD ["pen", "many"] spDraw) (b : Binds K fdD ["pen", "many"] []) (gD : mg "_law_draw" = some (.ref fD)) (kD : PySem.W.keepIn K (.ref fD) = true) : FnOk P w K mg base CX0 2 f fd ["pen", "plain"] spRows := by
  have nd := scRows.nd
  refine F.ok scRows (fun vs H Q E h => ?_) (fun cdv A outer s H vs Q E hr h => ?_)
  · obtain ⟨p, q, ns, s, g, v, ss, xs, r, rfl, _⟩ := h
    rfl
  · obtain ⟨p, q, ns, s, g, v, ss, xs, r, rfl, hP, hl, h0, h1, ⟨t, a, bb, d, rfl, ht, ha, hb, hd⟩, np, ok, k⟩ := h
    have hu := hu_of hr
    refine ⟨_, pss_cons (ps_asg (pv 1) (pg_tup rfl (pgs_cons (pg_name (i := 2) nd rfl (Or.inl rfl)) (pgs_cons (pg_name (i := 3) nd rfl (Or.inl rfl)) (pgs_cons (pg_name (i := 4) nd rfl (Or.inl rfl)) pgs_nil)))))
      (pss_cons (ps_par (i := 5) (j := 6) (by rfl) nd rfl rfl (by decide) rfl rfl (pa_cons pe_dnewK (pa_cons (pe_cmpR op_eq (pe_call G hr (by rfl) gD kD b .nil pass0 (pa_cons (pv 0) (pa_cons pe_int pa_nil))) pe_int (nomark _)) pa_nil)) (by rfl))
      (pss_cons (ps_for PassesOwn.never rfl (pi_list (pe_ifExp (pt_val (pv 6)) (pe_revL (pv 2)) (pv 2))) (pg_name (i := 7) nd rfl (Or.inl rfl))
        (pss_cons (ps_par (i := 8) (j := 9) (by rfl) nd rfl rfl (by decide) rfl rfl (pa_cons pe_dnewK (pa_cons (pe_ifExp (pt_cmpR op_eq (pe_call G hr (by rfl) gD kD b .nil pass0 (pa_cons (pv 0) (pa_cons pe_int pa_nil))) pe_int (nomark _)) (pe_revL (pv 3)) (pv 3)) pa_nil)) (by rfl))
        (pss_cons (ps_for PassesOwn.never rfl (pi_list (pv 9)) (pg_name (i := 10) nd rfl (Or.inl rfl))
          (pss_one (ps_if (PW.pt (pw_or (pt_cmp (pc_din hu (pe_tup (pa_cons (pv 7) (pa_cons (pv 10) pa_nil))) (pv 4))) (pw_or1 (pt_cmpR op_eq (pe_call G hr (by rfl) gD kD b .nil pass0 (pa_cons (pv 0) (pa_cons pe_int pa_nil))) pe_int (nomark _)))))
            (pss_one (ps_dput hu (pv 8) (pv 10) (pe_dget2 hu (pv 4) (pe_tup (pa_cons (pv 7) (pa_cons (pv 10) pa_nil))) pe_int ⟨rfl, rfl, rfl, rfl⟩) rfl)) pss_nil)))
        (pss_one (ps_dput hu (pv 5) (pv 7) (pv 8) rfl)))))
      (pss_one (ps_ret (pe_tup (pa_cons (pv 5) (pa_cons (pe_callTy (T := "list") call_list_of (by rfl) T.lst (by decide +kernel) (pa_cons (pv 3) pa_nil)) pa_nil))))))), ?_⟩
    refine ⟨_, rfl, t, _, rfl, SqT.of ht, rfl, _, _, rfl, _, _, rfl, _, _, rfl, rfl, ?_⟩
    intro dR nR
    have eR := Ex.new (o := .dK []) nR
    have hP1 := hP.new (o := .dK []) nR
    have hR : upd H dR (.dK []) dR = some (rowsO []) := upd_same
    have ha1 := eR _ _ ha
    have hb1 := eR _ _ hb
    have hd1 := eR _ _ hd
    have pR : dR ≠ p := (ne_of_none hP.p nR).symm
    have nbR : ∀ c o, H c = some o → c ≠ dR := fun c o hc => ne_of_none hc nR
    generalize upd H dR (.dK []) = H1 at eR hP1 hR ha1 hb1 hd1 ⊢
    refine ⟨_, rfl, p, q, ns, s, g, 2, rfl, hP1, hl, h0, by omega, by decide, by decide, fun w0 s1 g1 H2 wa wb sa1 sa2 hP2 b2 => ⟨rfl, ?_⟩⟩
    refine ⟨_, _, rfl, ?_⟩
    have ha2 := b2 _ _ ha1 (strs_ne hP1 ha1)
    have hb2 := b2 _ _ hb1 (strs_ne hP1 hb1)
    have dp : d ≠ p := ne_of hd1 hP1.p (fun z => nomatch z)
    have hd2 := b2 _ _ hd1 dp
    have hR2 := b2 _ _ hR pR
    refine ⟨_, rfl, _, rfl, g_rev (K := K) (m := 2) rfl ha2 fun la L H3 pL hla e3 => ?_⟩
    have hP3 : Pen H3 p q ns s1 g1 := ⟨e3 _ _ hP2.p, e3 _ _ hP2.q⟩
    have hb3 := e3 _ _ hb2
    have hd3 := e3 _ _ hd2
    have hR3 := e3 _ _ hR2
    have b3 : ∀ c o, H c = some o → c ≠ p → H3 c = some o := fun c o hc ne => e3 _ _ (b2 _ _ (eR _ _ hc) ne)
    have nL : L.Nodup := pL.nodup_iff.mpr ok.s.nod
    have lL : L.length ≤ 6 := by
      rw [pL.length_eq]
      exact ok.s.few
    have nap := strs_ne hP3 hla
    have nbp := strs_ne hP3 hb3
    have laR : la ≠ dR := fun z => by
      rw [z, hR3] at hla
      cases hla
    have bbR : bb ≠ dR := fun z => by
      rw [z, hR3] at hb3
      cases hb3
    have ddR : d ≠ dR := fun z => by
      rw [z, hR3] at hd3
      cases hd3
    refine ⟨la, rfl, ⟨_, SqL.of hla⟩, for_list (xs := L.map V.str) (fun i sg H' => ∃ (s' g' : Int) (o7 o8 o9 o10 : Option V) (T : Tab) (tb : Bool), sg = [some (.ref p), some (.ref t), some (.ref a), some (.ref bb), some (.ref d), some (.ref dR), some (.bl tb), o7, o8, o9, o10] ∧ Pen H' p q ns s' g' ∧ s ≤ s' ∧ s' ≤ s + 1 + 7 * i ∧ TabAt H' dR T ∧ TabOf r (L.take i) xs T ∧ Kept p dR H3 H')
      ⟨s1, g1, none, none, none, none, [], _, rfl, hP3, by omega, by omega, ⟨hR3, (fun t ht => nomatch ht)⟩, ⟨rfl, List.nodup_nil, (fun t ht => nomatch ht)⟩, fun _ _ h _ _ => h⟩ (fun i sg H' _ ⟨_, _, _, _, _, _, _, _, _, _, _, _, _, _, kp⟩ => SqL.of (kp _ _ hla nap laR)) (fun i z sg H' hi ⟨s', g', o7, o8, o9, o10, T, tb, esg, pn, i1, i2, i3, i4, kp⟩ => ?_) (fun sg H' ⟨s', g', o7, o8, o9, o10, T, tb, esg, pn, i1, i2, i3, i4, kp⟩ => ?_)⟩
    · subst esg
      rw [List.getElem?_map] at hi
      obtain ⟨sc, hsc, rfl⟩ := Option.map_eq_some_iff.mp hi
      have ilt : i < L.length := (List.getElem?_eq_some_iff.mp hsc).1
      intro dr nr
      have er := Ex.new (o := .dK []) nr
      have pn5 := pn.new (o := .dK []) nr
      have hr5 : upd H' dr (.dK []) dr = some (.dK (ents [])) := upd_same
      have tab5 := i3.ex er
      have hb5 := er _ _ (kp _ _ hb3 nbp bbR)
      have hd5 := er _ _ (kp _ _ hd3 dp ddR)
      have drp : dr ≠ p := (ne_of_none pn.p nr).symm
      have drR : dR ≠ dr := ne_of_none i3.at_ nr
      have drT : ∀ z ∈ T, z.2.1 ≠ dr := fun z hz => ne_of_none (i3.row z hz) nr
      have kp5 : ∀ c o, H3 c = some o → c ≠ p → c ≠ dR → upd H' dr (.dK []) c = some o ∧ c ≠ dr := fun c o hc n1 n2 => ⟨er _ _ (kp _ _ hc n1 n2), ne_of_none (kp _ _ hc n1 n2) nr⟩
      generalize upd H' dr (.dK []) = H5 at pn5 hr5 tab5 hb5 hd5 kp5 ⊢
      refine ⟨_, rfl, p, q, ns, s', g', 2, rfl, pn5, hl, by omega, by omega, by decide, by decide, fun w1 s4 g4 H6 wc wd sb1 sb2 hP6 b6 => ⟨rfl, _, rfl, ?_⟩⟩
      have hb6 := b6 _ _ hb5 nbp
      refine g_rev (K := K) (m := 3) rfl hb6 fun lm M H7 pM hlm e7 => ⟨_, _, rfl, ?_⟩
      have hP7 : Pen H7 p q ns s4 g4 := ⟨e7 _ _ hP6.p, e7 _ _ hP6.q⟩
      have hd7 := e7 _ _ (b6 _ _ hd5 dp)
      have hr7 := e7 _ _ (b6 _ _ hr5 drp)
      have Tp : ∀ z ∈ T, z.2.1 ≠ p := fun z hz => ne_of (tab5.row z hz) pn5.p (fun y => nomatch y)
      have tab7 : TabAt H7 dR T := ⟨e7 _ _ (b6 _ _ tab5.at_ pR), fun z hz => e7 _ _ (b6 _ _ (tab5.row z hz) (Tp z hz))⟩
      have kp7 : ∀ c o, H3 c = some o → c ≠ p → c ≠ dR → H7 c = some o ∧ c ≠ dr := fun c o hc n1 n2 => ⟨e7 _ _ (b6 _ _ (kp5 _ _ hc n1 n2).1 n1), (kp5 _ _ hc n1 n2).2⟩
      have nM : M.Nodup := pM.nodup_iff.mpr ok.u.nod
      have lM : M.length ≤ 6 := by
        rw [pM.length_eq]
        exact ok.u.few
      have lmp := strs_ne hP7 hlm
      have lmr : lm ≠ dr := fun z => by
        rw [z, hr7] at hlm
        cases hlm
      have ddr : d ≠ dr := fun z => by
        rw [z, hr7] at hd7
        cases hd7
      refine ⟨_, rfl, lm, rfl, ⟨_, SqL.of hlm⟩, for_list (xs := M.map V.str) (fun j sg H' => ∃ (s' g' : Int) (o10 : Option V) (row : Fk.Row), sg = [some (.ref p), some (.ref t), some (.ref a), some (.ref bb), some (.ref d), some (.ref dR), some (.bl tb), some (.str sc), some (.ref dr), some (.ref lm), o10] ∧ Pen H' p q ns s' g' ∧ s ≤ s' ∧ s' ≤ s + 2 + 7 * i + j ∧ H' dr = some (.dK (ents row)) ∧ RowMid r sc M j row ∧ Kept p dr H7 H')
        ⟨s4, g4, o10, [], rfl, hP7, by omega, by omega, hr7, ⟨List.nodup_nil, (fun e he => nomatch he), (fun y hy => by rw [List.take_zero] at hy; cases hy)⟩, fun _ _ h _ _ => h⟩ (fun j sg H' _ ⟨_, _, _, _, _, _, _, _, _, _, kq⟩ => SqL.of (kq _ _ hlm lmp lmr)) (fun j z sg H' hj ⟨s', g', o10, row, esg, pn, j1, j2, j3, j4, kq⟩ => ?_) (fun sg H' ⟨s', g', o10, row, esg, pn, j1, j2, j3, j4, kq⟩ => ?_)⟩
      · subst esg
        rw [List.getElem?_map] at hj
        obtain ⟨u, hu', rfl⟩ := Option.map_eq_some_iff.mp hj
        have jlt : j < M.length := (List.getElem?_eq_some_iff.mp hu').1
        have hdx := kq _ _ hd7 dp ddr
        refine ⟨_, rfl, _, rfl, by show 2 ≤ sizeLine; decide, fun tp ntp => ⟨_, rfl, d, _, rfl, DGet.t (k := key2 sc u) (Ex.new ntp _ _ hdx) upd_same, _, rfl, ?_⟩⟩
        have ep := Ex.new (o := .tup [.str sc, .str u]) ntp
        have pnp := pn.new (o := .tup [.str sc, .str u]) ntp
        have hdp := ep _ _ hdx
        have hrp := ep _ _ j3
        have kqp : Kept p dr H7 (upd H' tp (.tup [.str sc, .str u])) := fun c o hc n1 n2 => ep _ _ (kq _ _ hc n1 n2)
        generalize upd H' tp (.tup [.str sc, .str u]) = H8 at pnp hdp hrp kqp ⊢
        have no : u ∉ row.map (·.1) := fun m => by
          obtain ⟨e, he, ee⟩ := List.mem_map.mp m
          exact take_no nM hu' (by rw [← ee]; exact (j4.mem e he).1)
        have few : row.length ≤ 100 := by
          have l1 := nodup_le (m := M.take j) j4.nod fun x hx => by
            obtain ⟨e, he, rfl⟩ := List.mem_map.mp hx
            exact (j4.mem e he).1
          rw [List.length_map, List.length_take] at l1
          omega
        rw [valV_tents]
        cases hq : lookT r (key2 sc u) with
        | some n =>
          refine put_at (sc := sc) (u := u) (r := r) rfl rfl rfl rfl hrp hdp no few fun Hy k1 k2 => ?_
          exact ⟨s', g', _, _, rfl, ⟨k1 _ _ pnp.p drp.symm, k1 _ _ pnp.q (ne_of pnp.q hrp fun z => nomatch z)⟩, j1, by omega, k2, j4.put nM hu', fun c o hc n1 n2 => k1 _ _ (kqp _ _ hc n1 n2) n2⟩
        | none =>
          refine ⟨_, rfl, p, q, ns, s', g', 2, rfl, pnp, hl, by omega, by omega, by decide, by decide, fun w2 s5 g5 H9 we wf sc1 sc2 hP9 b9 => ⟨rfl, _, rfl, ?_⟩⟩
          have hd9 := b9 _ _ hdp dp
          have hr9 := b9 _ _ hrp drp
          have kq9 : Kept p dr H7 H9 := fun c o hc n1 n2 => b9 _ _ (kqp _ _ hc n1 n2) n1
          cases hw : decide (V.int w2 = V.int 0) with
          | true =>
            refine put_at (sc := sc) (u := u) (r := r) rfl rfl rfl rfl hr9 hd9 no few fun Hy k1 k2 => ?_
            exact ⟨s5, g5, _, _, rfl, ⟨k1 _ _ hP9.p drp.symm, k1 _ _ hP9.q (ne_of hP9.q hr9 fun z => nomatch z)⟩, by omega, by omega, k2, j4.put nM hu', fun c o hc n1 n2 => k1 _ _ (kq9 _ _ hc n1 n2) n2⟩
          | false => exact ⟨s5, g5, _, row, rfl, hP9, by omega, by omega, hr9, j4.skip hu' (by rw [hq]; rfl), kq9⟩
      · subst esg
        rw [List.length_map] at j2 j4
        have tabx : TabAt H' dR T := ⟨kq _ _ tab7.at_ pR drR, fun z hz => kq _ _ (tab7.row z hz) (Tp z hz) (drT z hz)⟩
        have notin : sc ∉ T.map (·.1) := by
          rw [i4.names]
          exact take_no nL hsc
        have lT : T.length ≤ 6 := by
          have := congrArg List.length i4.names
          rw [List.length_map, List.length_take] at this
          omega
        refine ⟨_, rfl, _, rfl, _, rfl, dR, _, rfl, DPut.k (k := Sum.inr sc) tabx.at_ (by rw [List.length_map, sizeLine_eq]; omega), ?_⟩
        rw [rows_new (row := row) notin]
        refine ⟨s', g', _, _, _, _, T ++ [(sc, dr, row)], tb, rfl, ⟨?_, ?_⟩, j1, by omega, ⟨upd_same, fun z hz => ?_⟩, ⟨?_, ?_, fun z hz => ?_⟩, fun c o hc n1 n2 => ?_⟩
        · rw [upd_ne pR.symm]
          exact pn.p
        · rw [upd_ne (ne_of pn.q tabx.at_ fun z => nomatch z)]
          exact pn.q
        · rcases List.mem_append.mp hz with hz | hz
          · rw [upd_ne (tabx.ne z hz)]
            exact tabx.row z hz
          · obtain rfl := List.mem_singleton.mp hz
            rw [upd_ne drR.symm]
            exact j3
        · rw [List.map_append, i4.names, List.take_add_one, hsc]
          rfl
        · rw [List.map_append, List.nodup_append]
          refine ⟨i4.nodA, List.nodup_cons.mpr ⟨List.not_mem_nil, List.nodup_nil⟩, fun x hx y hy e => ?_⟩
          obtain ⟨z, hz, rfl⟩ := List.mem_map.mp hx
          obtain rfl := List.mem_singleton.mp hy
          exact drT z hz e
        · rcases List.mem_append.mp hz with hz | hz
          · exact i4.row z hz
          · obtain rfl := List.mem_singleton.mp hz
            exact ⟨j4.nod, fun e he => ⟨pM.mem_iff.mp (List.mem_of_mem_take (j4.mem e he).1), (j4.mem e he).2⟩, fun y hy => j4.all y (by rw [List.take_length]; exact pM.mem_iff.mpr hy)⟩
        · rw [upd_ne n2]
          exact kq _ _ (kp7 _ _ hc n1 n2).1 n1 (kp7 _ _ hc n1 n2).2
    · subst esg
      rw [List.length_map] at i2 i4
      rw [List.take_length] at i4
      refine ⟨_, rfl, _, rfl, bb, _, rfl, .inl (SqL.of (kp _ _ hb3 nbp bbR)), fun u nu => ⟨by show 2 ≤ sizeLine; decide, fun tt ntt => ?_⟩⟩
      have eu := Ex.new (o := .lst (xs.map V.str)) nu
      have et := Ex.new (o := .tup [.ref dR, .ref u]) ntt
      exact k tt dR u T L s' g' _ upd_same ⟨et _ _ (eu _ _ i3.at_), fun z hz => et _ _ (eu _ _ (i3.row z hz))⟩ pL i4 (et _ _ upd_same) i1 (by omega) ((pn.new nu).new ntt) fun c o hc ne => et _ _ (eu _ _ (kp _ _ (b3 _ _ hc ne) ne (nbR _ _ hc)))
end
end K06

set_option Elab.async false
set_option linter.all false
set_option maxRecDepth 100000
set_option maxHeartbeats 4000000
/-! C(..) whose __init__ keeps its promise while no object is being shown; _law_made. -/
namespace XG
open PySem PySem.Spec PyProof.Rows L2
section
variable {X : Cx} {k : Nat} {f C : Addr} {fd : FuncData} {ps : List Str} {sp : Sp} {x : Str} {p pos : Pos} {e : Expr} {es : List Expr} {t : TA}
theorem run_makeG {pins : List (Addr × Obj)} {σ : L2.St} {H : Hp} {s : Shared} {Q : VK} {us : List Value} {vs : List V} (M : Mk X.K C f) (F : FnG X.prog X.w X.K X.mg X.base CX0 k f fd ps sp) (len : ∀ vs H Q E, sp vs H Q E → vs.length = ps.length) (gd : X.A.guards = some []) (hr : Room (k + 1) X.A) (hb : Binds X.K fd ps [])
    (I : Inv X pins σ H s) (r : Vals vs us) (h : ∀ x dx, H x = none → H dx = none → dx ≠ x → sp (.ref x :: vs) (upd (upd H dx (.own x)) x (.ins C dx [])) (fun v H2 => v = .non ∧ Q (.ref x) H2) E0) : wpAny (model X.prog X.w) X.A (call (.ref C) us) (EP X pins σ Q) X.xe s := by
  have q := h (s.heap.objs.size + 1) s.heap.objs.size (I.hok.fresh (Nat.le_succ _)) (I.hok.fresh (Nat.le_refl _)) (Nat.ne_of_lt (Nat.lt_succ_self _))
  have J := Inv.made (C := C) I
  have rr : Vals (V.ref (s.heap.objs.size + 1) :: vs) (Value.ref (s.heap.objs.size + 1) :: us) := .cons rfl r
  have n : (Value.ref (s.heap.objs.size + 1) :: us ++ []).length = ps.length := by rw [List.append_nil, ← rr.length]; exact len _ _ _ _ q
  refine wpAny_call (make_map (f := f) I.kIn M.makes M.init (beq_iff_eq.mp M.fn) (codeAny_mono (F _ X.stack _ _ ⟨Value.ref (s.heap.objs.size + 1) :: us, []⟩ (Value.ref (s.heap.objs.size + 1) :: us ++ []) _ _ E0 gd (hr.make C us []) (J.env0.make C us []) (hb _ (Value.ref (s.heap.objs.size + 1) :: us) J.kIn n) (by rw [List.append_nil]; exact rr) q) fun r' s' hq => ?_))
  cases r' with
  | error e => exact (show False from hq).elim
  | ok fl =>
    cases fl with
    | ret u =>
      obtain ⟨v, H', I3, rv, ev, q3⟩ := J.after hq
      subst ev
      exact ⟨rv, V.ref (s.heap.objs.size + 1), H', I3, rfl, q3⟩
    | next => exact False.elim hq
    | brk => exact False.elim hq
    | cont => exact False.elim hq
def tMakeG (C : Addr) (sp : Sp) (t : TA) : TE := fun σ H Q => t σ H fun vs H1 => ∀ x dx, H1 x = none → H1 dx = none → dx ≠ x → sp (.ref x :: vs) (upd (upd H1 dx (.own x)) x (.ins C dx [])) (fun v H2 => v = .non ∧ Q (.ref x) H2) E0
theorem pe_makeG (M : Mk X.K C f) (F : FnG X.prog X.w X.K X.mg X.base CX0 k f fd ps sp) (len : ∀ vs H Q E, sp vs H Q E → vs.length = ps.length) (gd : X.A.guards = some []) (hr : Room (k + 1) X.A) (hb : Binds X.K fd ps []) (hg : Gl X x) (hm : X.mg x = some (.ref C))
    (ha : PA X (e :: es) t) (hdb : (x == ("__debug__" : Str)) = false := by decide) (he : starEach (e :: es) X.env = (false, eval e X.env) :: starEach es X.env := by rfl) (hpl : (backTo pos (starEach es X.env)).any (·.1) = false := by rfl) : PE X (.Call (.Name x p) (e :: es) [] pos) (tMakeG C sp t) := by
  refine ⟨fun pins s σ H Q I h => wpAny_Call_Name_kw (ld_glob I hg hm ?_ hdb)⟩
  exact PySem.W.callWith_K (h₀ := X.base) I.ok.mod.kin M.kp (thn (ha.run pos pins s σ H _ I h) fun us s1 ⟨vs, H1, I1, r, q⟩ => ⟨I1.kIn, run_makeG M F len gd hr hb I1 r q⟩) he hpl
end
end XG
namespace K06
open PySem PySem.Spec PyProof.Rows L2
open DtE (TRow tents lookT valV_tents)
open Tb (key2 PairK Oks Tab TabAt TabOk worths wk rowsO TblAt RowOk usesOf namesOf leT mem_worths worths_nod worths_few worths_pair key2_inj)
open Fk (NameV nameB ents srt srt_perm)
open EvP (Ex)
/-- the same worths -/
structure Alike (r' r : TRow) : Prop where
  look : ∀ k, lookT r' k = lookT r k
  nod : (r'.map (·.1)).Nodup
  row : RowOk r'
  few : r'.length ≤ 961
theorem look_mem {w : TRow} (n : (w.map (·.1)).Nodup) {k : List Key} {v : Int} : lookT w k = some v ↔ (k, v) ∈ w := by
  induction w with
  | nil => exact ⟨fun h => (by cases h), fun h => (by cases h)⟩
  | cons t w ih =>
    rw [List.map_cons, List.nodup_cons] at n
    have ih := ih n.2
    unfold lookT at ih ⊢
    by_cases e : t.1 = k
    · rw [List.find?_cons, decide_eq_true e]
      show some t.2 = some v ↔ _
      constructor
      · intro h
        rw [← e, ← Option.some.inj h]
        exact .head _
      · intro h
        rcases List.mem_cons.mp h with h | h
        · rw [← h]
        · exact absurd (List.mem_map.mpr ⟨_, h, e.symm⟩) n.1
    · rw [List.find?_cons, decide_eq_false e]
      show (w.find? fun t => decide (t.1 = k)).map (·.2) = some v ↔ _
      rw [ih]
      exact ⟨fun h => .tail _ h, fun h => (List.mem_cons.mp h).resolve_left fun h => e (by rw [← h])⟩
theorem look_none {w : TRow} {k : List Key} (h : lookT w k = none) : ∀ v, (k, v) ∉ w := fun v m => by
  unfold lookT at h
  rw [Option.map_eq_none_iff, List.find?_eq_none] at h
  exact h _ m (decide_eq_true rfl)
theorem wk_nn {ss xs : List Str} {r : TRow} (ok : WorthsOk ss xs r) (k : List Key) : 0 ≤ wk r k ∧ wk r k < 10 ^ 30 := by
  unfold wk
  cases h : lookT r k with
  | none => exact ⟨Int.le_refl _, by decide⟩
  | some n =>
    have := ok.pos _ ((look_mem ok.nod).mp h)
    exact ⟨Int.le_of_lt this.1, this.2⟩
theorem tabOk_of {r : TRow} {ss xs L : List Str} {T : Tab} (ok : PlainOk ss xs r) (p : L.Perm ss) (h : TabOf r L xs T) : TabOk T where
  nod := by
    rw [h.names]
    exact p.nodup_iff.mpr ok.s.nod
  nodA := h.nodA
  nm := fun t ht => by
    have : t.1 ∈ L := by
      rw [← h.names]
      exact List.mem_map.mpr ⟨t, ht, rfl⟩
    exact ok.s.nm _ (p.mem_iff.mp this)
  row := fun t ht => by
    have ro := h.row t ht
    refine ⟨ro.nod, fun e he => ⟨ok.u.nm _ (ro.mem e he).1, ?_⟩, ?_⟩
    · rw [(ro.mem e he).2]
      exact (wk_nn ok.w _).1
    · have l := nodup_le (m := xs) ro.nod fun x hx => by
        obtain ⟨e, he, rfl⟩ := List.mem_map.mp hx
        exact (ro.mem e he).1
      rw [List.length_map] at l
      exact Nat.le_trans l (Nat.le_trans ok.u.few (by decide))
  few := by
    have := congrArg List.length h.names
    rw [List.length_map, p.length_eq] at this
    rw [this]
    exact Nat.le_trans ok.s.few (by decide)
theorem worths_alike {r : TRow} {ss xs L : List Str} {T : Tab} (ok : PlainOk ss xs r) (p : L.Perm ss) (h : TabOf r L xs T) : Alike (worths T) r := by
  have to := tabOk_of ok p h
  have wn := worths_nod to
  refine ⟨fun k => ?_, wn, worths_pair to, Nat.le_trans (worths_few to) (by decide)⟩
  cases q : lookT r k with
  | some n =>
    have m := (look_mem ok.w.nod).mp q
    obtain ⟨a, ha, x, hx, e⟩ := ok.w.key _ m
    have np := (ok.w.pos _ m).1
    have ek : k = key2 a x := e
    have aL : a ∈ T.map (·.1) := by
      rw [h.names]
      exact p.mem_iff.mpr ha
    obtain ⟨t, ht, et⟩ := List.mem_map.mp aL
    have ro := h.row t ht
    rw [et] at ro
    have xm := ro.all x hx (by rw [← ek, q]; rfl)
    obtain ⟨c, hc, ec⟩ := List.mem_map.mp xm
    have cv : c.2 = n := by
      rw [(ro.mem c hc).2, ec, ← ek]
      unfold wk
      rw [q]
      rfl
    refine (look_mem wn).mpr ?_
    refine List.mem_flatMap.mpr ⟨t, ht, List.mem_map.mpr ⟨c, List.mem_filter.mpr ⟨hc, decide_eq_true (by rw [cv]; exact np)⟩, ?_⟩⟩
    rw [et, ec, cv, ek]
  | none =>
    cases q2 : lookT (worths T) k with
    | none => rfl
    | some n =>
      exfalso
      obtain ⟨t, ht, c, hc, cp, ee⟩ := mem_worths ((look_mem wn).mp q2)
      have ek : k = key2 t.1 c.1 := (Prod.mk.inj ee).1
      have v := ((h.row t ht).mem c hc).2
      rw [← ek] at v
      unfold wk at v
      rw [q] at v
      have : c.2 = 0 := v
      omega
theorem firsts_in : ∀ (ys acc : List Str), (∀ y ∈ ys, y ∈ acc) → ys.foldl (fun acc n => if n ∈ acc then acc else acc ++ [n]) acc = acc
  | [], _, _ => rfl
  | y :: ys, acc, h => by
    rw [List.foldl_cons, if_pos (h y (.head _))]
    exact firsts_in ys acc fun z hz => h z (.tail _ hz)
theorem firsts_nod : ∀ (ys acc : List Str), (acc ++ ys).Nodup → ys.foldl (fun acc n => if n ∈ acc then acc else acc ++ [n]) acc = acc ++ ys
  | [], acc, _ => by simp
  | y :: ys, acc, h => by
    have no : y ∉ acc := fun m => by
      rw [List.nodup_append] at h
      exact h.2.2 y m y (.head _) rfl
    rw [List.foldl_cons, if_neg no, firsts_nod ys (acc ++ [y]) (by rw [List.append_assoc]; exact h), List.append_assoc]
    rfl
theorem uses_of {r : TRow} {ss xs L : List Str} {T : Tab} (ok : PlainOk ss xs r) (h : TabOf r L xs T) : usesOf xs T = srt xs := by
  unfold usesOf Tb.firsts
  rw [List.foldl_append, firsts_nod xs [] ok.u.nod, List.nil_append, firsts_in _ _ fun y hy => ?_]
  unfold Tb.namesOf at hy
  obtain ⟨t, ht, hy⟩ := List.mem_flatMap.mp hy
  obtain ⟨e, he, rfl⟩ := List.mem_map.mp hy
  exact ((h.row t ht).mem e he).1
abbrev sMade : Stmt := top 44
abbrev ND : List Str := ["pen", "plain", "rows_so", "further"]
theorem scMade : FnScope ND ["pen", "plain"] (defScope sMade) := ⟨rfl, rfl, rfl, by decide +kernel, rfl, by decide +kernel, by decide +kernel⟩
def spMade (C : Addr) : Sp := fun vs H Q _ => ∃ (p q : Addr) (ns : List Int) (s g : Int) (v : V) (ss xs : List Str) (r : TRow), vs = [.ref p, v] ∧ Pen H p q ns s g ∧ ns.length ≤ 63 ∧ 0 ≤ s ∧ s < 99000 ∧ PlainAt H v ss xs r ∧ PlainOk ss xs r ∧
  ∀ (x : Addr) (r' : TRow) (s' g' : Int) (H' : Hp), TblAt C H' x (srt ss) (srt xs) r' → Alike r' r → s ≤ s' → s' ≤ s + 100 → Pen H' p q ns s' g' → But p H H' → Q (.ref x) H'
theorem spMade_len {C : Addr} : ∀ vs H Q E, spMade C vs H Q E → vs.length = (["pen", "plain"] : List Str).length := fun vs H Q E h => by
  obtain ⟨p, q, ns, s, g, v, ss, xs, r, rfl, _⟩ := h
  rfl
section
variable {P : Program} {w : World} {K : PySem.W.Frag} {mg : Str → Option Value} {base : Heap} {C f fR fI : Addr} {fd fdR fdI : FuncData}
theorem ok_made (F : Fun K "_law_made" "_law_made" sMade f fd) (GR : FnOk P w K mg base CX0 2 fR fdR ["pen", "plain"] spRows) (bR : Binds K fdR ["pen", "plain"] []) (gR : mg "_law_rows" = some (.ref fR)) (kR : PySem.W.keepIn K (.ref fR) = true)
    (M : Mk K C fI) (GI : XG.FnG P w K mg base CX0 5 fI fdI ["self", "rows", "uses"] (Tb.spTI K C)) (bI : Binds K fdI ["self", "rows", "uses"] []) (gT : mg "Table" = some (.ref C)) : XG.FnG P w K mg base CX0 7 f fd ["pen", "plain"] (spMade C) := by
  have nd := scMade.nd
  refine XG.Fun.okG F scMade spMade_len fun cdv A outer sh H vs Q E gd hr h => ?_
  obtain ⟨p, q, ns, s, g, v, ss, xs, r, rfl, hP, hl, h0, h1, pa, ok, k⟩ := h
  refine ⟨_, pss_cons (ps_asg (pe_call GR (hr.mono (by decide)) (by rfl) gR kR bR .nil pass0 (pa_cons (pv 0) (pa_cons (pv 1) pa_nil))) (pg_tup rfl (pgs_cons (pg_name (i := 2) nd rfl (Or.inl rfl)) (pgs_cons (pg_name (i := 3) nd rfl (Or.inl rfl)) pgs_nil))))
    (pss_one (ps_ret (XG.pe_makeG M GI Tb.spTI_len gd hr bI (by rfl) gT (pa_cons (pv 2) (pa_cons (pv 3) pa_nil))))), ?_⟩
  have np : ∀ c, v = .ref c → c ≠ p := fun c ec => by
    obtain ⟨t, a, b, d, ev, ht, _⟩ := pa
    rw [ev] at ec
    cases ec
    exact ne_of ht hP.p (fun z => nomatch z)
  refine ⟨_, rfl, _, rfl, p, q, ns, s, g, v, ss, xs, r, rfl, hP, hl, h0, h1, pa, np, ok, fun t d u T L s' g' H' ht hT pL hO hu i1 i2 pn bt => ?_⟩
  refine ⟨t, _, rfl, SqT.of ht, rfl, _, _, rfl, _, _, rfl, rfl, ?_⟩
  refine ⟨_, rfl, _, rfl, fun x dx nx ndx ne => ?_⟩
  have e1 := Ex.new (o := .own x) ndx
  have nx2 : upd H' dx (.own x) x = none := by
    rw [upd_ne ne.symm]
    exact nx
  have e2 := e1.trans (Ex.new (o := .ins C dx []) nx2)
  have hx : upd (upd H' dx (.own x)) x (.ins C dx []) x = some (.ins C dx []) := upd_same
  generalize upd (upd H' dx (.own x)) x (.ins C dx []) = H2 at e2 hx ⊢
  have to := tabOk_of ok pL hO
  have eu := uses_of ok hO
  refine ⟨x, d, u, dx, T, xs, rfl, hx, hT.ex e2, to, (by have := congrArg List.length hO.names; rw [List.length_map, pL.length_eq] at this; rw [this]; exact ok.s.few), .inl (SqL.of (e2 _ _ hu)), ok.u.nm, Nat.le_trans ok.u.few (by decide), by rw [eu, (srt_perm _).length_eq]; exact ok.u.few, fun H3 k3 ta => ⟨rfl, ?_⟩⟩
  rw [eu, hO.names, Fk.srt_eq pL] at ta
  have keep : ∀ c o, H' c = some o → H3 c = some o := fun c o hc => k3 _ _ (e2 _ _ hc) (ne_of_none hc nx)
  exact k x (worths T) s' g' H3 ta (worths_alike ok pL hO) i1 i2 ⟨keep _ _ pn.p, keep _ _ pn.q⟩ fun c o hc n => keep _ _ (bt _ _ hc n)
end
end K06

set_option Elab.async false
set_option linter.all false
set_option maxRecDepth 100000
set_option maxHeartbeats 4000000
/-! A lambda is called while nothing is being shown: what is known of the guards goes along. -/
namespace LamG
open PySem PySem.Spec PyProof.Rows L2 LamX
section
variable {X : Cx} {pins : List (Addr × Obj)} {σ : L2.St} {H HZ : Hp} {s t : Shared} {f c : Addr} {pm cv : Value} {params : Arguments} {body : Expr} {scope : Scope} {k : Nat} {te : TE} {E : XK}
/-- the lambda that X made, as it lies at f -/
abbrev made (X : Cx) (params : Arguments) (body : Expr) (scope : Scope) (pm : Value) (c : Addr) (cv : Value) : Obj :=
  PySem.W.kla_obj "<lambda>" (X.env.qual ++ "<lambda>") params body scope (cloFrom X.env.cells scope.names []) pm c cv
/-- its call, around A -/
theorem lam_call {A : Around} {outer : List Env} {Q : VK} (I : Inv X pins σ H s) (L : LamS X.env.scope scope) (at_ : t.heap.get? f = some (made X params body scope pm c cv))
    (bind : bindArgs (PySem.W.kla_fn "<lambda>" (X.env.qual ++ "<lambda>") params body scope (cloFrom X.env.cells scope.names []) pm (.ref c) cv) ⟨[], []⟩ = pure [])
    (e0 : Env0 X.prog X.w X.K X.mg X.base A outer t HZ) (room : Room (k + 1) A) (lim : t.heap.NoLimit) (un : Un (frs X.stack) [] H HZ s.heap t.heap) (code : HZ c = some (CodeO c (X.env.qual ++ "<lambda>")))
    (walk : Room k (A.deeper (lamEnv X scope t.heap.objs.size f c)) → PE (lamCx X A outer t HZ E scope f c) body te) (h : te σ HZ Q) :
    codeAny (model X.prog X.w) A (.call (.ref f) ⟨[], []⟩) (CR (L2.CX X.prog X.w) outer X.prog X.w HZ t Q E) t := by
  obtain ⟨⟨oc, rec, tk, c1, c2, c3⟩, -, -⟩ := e0.hok c _ code
  refine PySem.W.kla_callFunE room.depth at_ rfl L.co L.gen rfl ⟨c, oc, rec, tk, rfl, c1, c2, c3⟩ ?_
  rw [bind]
  refine wpAny_pure (wpAny_newFunctionEnv (fun y hy => (L.own y hy).2) (fun y hy => absurd hy List.not_mem_nil) (fun h1 ns below => ⟨lim.fresh _ below, PySem.W.kla_codeExpr ?_⟩) L.kind)
  have stay : ∀ b o, t.heap.get? b = some o → h1.get? b = some o := fun b o e => below.extBut b o (Nat.ne_of_lt (Heap.lt_size e)) (Heap.get?_push_of_some _ e)
  have J := lam_start2 (E := E) (tk := t.toks + 0) (f := f) (c' := c) I L e0 room.hd un ns stay
  refine wpAny_mono ((walk (room.deeper _)).run [] _ _ HZ Q J h) (fun v s2 z => ?_) fun _ _ z => z
  obtain ⟨u, H2, J2, r, q⟩ := z
  exact ⟨u, H2, J2.os, J2.bare, J2.base, J2.hok, r, q⟩
/-- a(), in the def that was handed the lambda -/
theorem pe_actG {Eg : XK} {CXg : CXT} {Ng : List Str} {qg a : Str} {sg : Scope} {g : Addr} {cdg : Value} {i : Nat} {pn : List (Addr × Obj)} {xe : Value → Shared → Prop} {W : WX} {p1 p2 : Pos}
    (I : Inv X pins σ H s) (L : LamS X.env.scope scope) (at_ : s.heap.get? f = some (made X params body scope pm c cv)) (nf : H f = none) (nfr : f ∉ frs X.stack)
    (bind : bindArgs (PySem.W.kla_fn "<lambda>" (X.env.qual ++ "<lambda>") params body scope (cloFrom X.env.cells scope.names []) pm (.ref c) cv) ⟨[], []⟩ = pure [])
    (tk : Takes ((cxOf CXg X.prog X.w X.K X.mg X.base Ng qg sg g cdg X.A X.stack s H Eg).tr pn xe) W) (hW : ∀ cls d σ' H', E cls d H' → W cls d σ' H') (room : Room (k + 1) (X.A.deeper (envOfC qg sg s.heap.objs.size g cdg)))
    (walk : ∀ (A : Around) (outer : List Env) (t : Shared) (H : Hp), A.guards = X.A.guards → Room k (A.deeper (lamEnv X scope t.heap.objs.size f c)) → PE (lamCx X A outer t H E scope f c) body te)
    (hN : Ng[i]? = some a) (hv : Vis sg a) (d1 : (a == ("__debug__" : Str)) = false := by decide) (d2 : (a == ("__classdict__" : Str)) = false := by decide) :
    PE ((cxOf CXg X.prog X.w X.K X.mg X.base Ng qg sg g cdg X.A X.stack s H Eg).tr pn xe) (.Call (.Name a p1) [] [] p2)
      (fun σZ HZ Q => σZ[i]? = some (some (.ref f)) ∧ HZ c = some (CodeO c (X.env.qual ++ "<lambda>")) ∧ te σ HZ Q) := by
  refine ⟨fun pz sz σz Hz Q Iz h => wpAny_Call_Name_kw (thn ((pe_var (pos := p1) (i := i) hN hv d1 d2).run pz sz σz Hz (fun v H1 => v = .ref f ∧ H1 = Hz) Iz ⟨.ref f, h.1, rfl, rfl⟩) fun u s1 z => ?_)⟩
  obtain ⟨v, H1, I1, r1, rfl, rfl⟩ := z
  cases (show u = Value.ref f from r1)
  have at1 : s1.heap.get? f = some (made X params body scope pm c cv) := I1.base.keep f _ at_ nf nfr List.not_mem_nil
  refine PySem.W.callWith_F0 ⟨_, _, _, _, at1⟩ (wpAny_call (codeAny_mono (lam_call (X := X) (pins := pins) (σ := σ) (H := H) (s := s) (E := E) I L at1 bind I1.env0 room I1.nolimit I1.base h.2.1 (walk _ _ s1 H1 rfl) h.2.2) fun r s2 z => ?_))
  cases r with
  | error e => exact passes_call tk hW pz σz H1 s1 e s2 I1 z
  | ok fl => cases fl with
    | ret u => exact I1.after z
    | _ => exact (show False from z).elim
/-- the def that calls what it got, while nothing is being shown -/
def GivesG (X : Cx) (Ng : List Str) (x : Str) (sg : Scope) (g : Addr) (cdg : Value) (bg : List Stmt) (a q : Str) (TT : (XK → Hp → VK → Prop) → Hp → VK → Prop) : Prop :=
  ∀ (f c : Addr) (s : Shared) (H : Hp) (Q : VK) (tl : XK → Hp → VK → Prop),
    (∀ (W : WX) (pn : List (Addr × Obj)) (xe : Value → Shared → Prop) (E : XK) (p1 p2 : Pos), Takes ((cxOf C8.CX0 X.prog X.w X.K X.mg X.base Ng x sg g cdg X.A X.stack s H C8.E0).tr pn xe) W → (∀ cls d σ' H', E cls d H' → W cls d σ' H') →
      PE ((cxOf C8.CX0 X.prog X.w X.K X.mg X.base Ng x sg g cdg X.A X.stack s H C8.E0).tr pn xe) (.Call (.Name a p1) [] [] p2) (fun σZ HZ Q => σZ[0]? = some (some (.ref f)) ∧ HZ c = some (CodeO c q) ∧ tl E HZ Q)) →
    H c = some (CodeO c q) → TT tl H Q →
    ∃ t, PSs (cxOf C8.CX0 X.prog X.w X.K X.mg X.base Ng x sg g cdg X.A X.stack s H C8.E0).nox bg t ∧ t { nx := fun _ H' => Q .non H', rt := Q } (L2.start Ng [.ref f]) H
/-- x(lambda: body) -/
theorem pe_lamG {T : List (Addr × Str)} {TT : (XK → Hp → VK → Prop) → Hp → VK → Prop} {x a : Str} {g c P : Addr} {pg : Arguments} {bg : List Stmt} {sg : Scope} {dV kV doc pm cdv ct oc : Value} {an od : Option Addr} {osl : Array (Option Value)} {Ng : List Str}
    {t : XK → TE} {p lpos pos : Pos} (hg : Gl X x) (hm : X.mg x = some (.ref g)) (hk : PySem.W.keepIn X.K (.ref g) = true) (lk : X.K.lookup g = some ⟨oc, od, .func (PySem.W.fnOf x x pg bg sg dV kV doc pm an cdv ct), osl⟩) (hcg : PySem.W.codeIn X.K cdv x = true)
    (hb : L2.Binds X.K (PySem.W.fnOf x x pg bg sg dV kV doc pm an cdv ct) [a] []) (Sg : FnScope Ng [a] sg) (hNg : Ng[0]? = some a) (hva : Vis sg a) (hG : GivesG X Ng x sg g cdv bg a (X.env.qual ++ "<lambda>") TT) (TB : TabB X.base X.mg c P) (hcode : X.env.code = .ref c)
    (hmT : (P, X.env.qual ++ "<lambda>") ∈ T) (hu : ∀ p ∈ T, p.1 = P → p.2 = X.env.qual ++ "<lambda>") (hr : Room (k + 2) X.A) (L : LamS X.env.scope scope) (hdef : defaultsOf params X.env = ([], []))
    (hbind : ∀ (q : Str) (cl : List (Str × Addr)) (pm cv ctv : Value), bindArgs (PySem.W.kla_fn "<lambda>" q params body scope cl pm cv ctv) ⟨[], []⟩ = pure [])
    (walk : ∀ (A : Around) (outer : List Env) (s : Shared) (H : Hp) (E : XK) (f c : Addr), A.guards = X.A.guards → Room k (A.deeper (lamEnv X scope s.heap.objs.size f c)) → PE (lamCx X A outer s H E scope f c) body (t E))
    (hdb : (x == ("__debug__" : Str)) = false := by decide) (d1 : (a == ("__debug__" : Str)) = false := by decide) (d2 : (a == ("__classdict__" : Str)) = false := by decide) :
    PE X (.Call (.Name x p) [.Lambda params body scope lpos] [] pos) (tLam T TT t) := by
  refine ⟨fun pins s σ H Q I ⟨hT, h⟩ => wpAny_Call_Name_kw (ld_glob I hg hm (PySem.W.callWith_K (h₀ := X.base) I.ok.mod.kin hk ?_ (by rfl) (by rfl)) hdb)⟩
  show wpAny _ _ (spliced ((false, eval (.Lambda params body scope lpos) X.env) :: backTo pos (starEach [] X.env))) _ _ s
  refine Calls.spliced_cons (lam_make2 I TB hcode hmT hu hT hdef (L.has I.ok) fun f c' pm' ctv H1 s1 I1 eN T1 hf hfn hfr hco => Calls.spliced_nil ⟨I1.kIn, wpAny_call (codeAny_mono (R := CR C8.CX0 X.stack X.prog X.w H1 s1 Q C8.E0) ?_ fun r s2 z => ?_)⟩)
  · refine run_ofS (N := Ng) (ps := [a]) (us := [.ref f]) (vs := [.ref f]) lk hcg Sg hr I1.env0 (hb s1 [.ref f] I1.kIn rfl) (.cons rfl .nil) rfl fun room => ?_
    obtain ⟨t1, w1, q1⟩ := hG f c' s1 H1 Q (fun E H' Q' => t E σ H' Q') (fun W pn xe E p1 p2 tk hW => pe_actG (i := 0) I1 L hf hfn hfr (hbind _ _ _ _ _) tk hW room (fun A outer s H gd hr2 => walk A outer s H E f c' gd hr2) hNg hva d1 d2) hco (h H1 eN T1)
    exact ⟨t1, w1.nox, q1⟩
  · cases r with
    | error e => exact (show False from z).elim
    | ok fl => cases fl with
      | ret u => exact I1.after z
      | _ => exact (show False from z).elim
end
end LamG

set_option Elab.async false
set_option linter.all false
set_option maxRecDepth 100000
set_option maxHeartbeats 4000000
/-! Words of a text, and what of them is a side's text: no Python here. -/
namespace Wd
open PySem PySem.NumText Fk
open Dg hiding numT
abbrev sp : Str := " "
/-- a text's words -/
abbrev ws (x : Str) : List Str := Txt.split x sp
abbrev tl (x : Str) : List Nat := x.cps.toList
theorem ws_spl (x : Str) : (ws x).map tl = TL.spl [32] 0 [] (tl x) := TL.split_spl x sp (by decide) (TL.kind_ok (by decide +kernel))
theorem glue (x : Str) : Txt.join sp (ws x) = x := by
  rw [TL.join_eq]
  exact StrLaws.join_split x sp
theorem cut {ps : List Str} (h : ps ≠ []) (no : ∀ p ∈ ps, 32 ∉ tl p) : ws (Txt.join sp ps) = ps := TL.split_join (y := sp) (s := 32) (S := []) rfl (by decide +kernel) h no
theorem first32 : ∀ l : List Nat, 32 ∉ l ∨ ∃ a b, l = a ++ 32 :: b ∧ 32 ∉ a
  | [] => .inl (by simp)
  | c :: l => by
    by_cases e : c = 32
    · exact .inr ⟨[], l, by rw [e]; rfl, by simp⟩
    · rcases first32 l with h | ⟨a, b, h1, h2⟩
      · exact .inl (by simp [h, Ne.symm e])
      · exact .inr ⟨c :: a, b, by rw [h1]; rfl, by simp [h2, Ne.symm e]⟩
theorem spl_facts : ∀ (n : Nat) (l : List Nat), l.length ≤ n → (TL.spl [32] 0 [] l).length = l.count 32 + 1 ∧ (∀ p ∈ TL.spl [32] 0 [] l, 32 ∉ p ∧ p.length ≤ l.length ∧ ∀ c ∈ p, c ∈ l)
  | 0, l, h => by
    have : l = [] := List.length_eq_zero_iff.mp (by omega)
    subst this
    rw [TL.spl_last1 (s := 32) (p := []) (by simp)]
    refine ⟨rfl, fun p hp => ?_⟩
    rw [List.mem_singleton] at hp
    subst hp
    exact ⟨by simp, by simp, by simp⟩
  | n + 1, l, h => by
    rcases first32 l with h0 | ⟨a, b, rfl, ha⟩
    · rw [TL.spl_last1 h0]
      refine ⟨?_, fun p hp => ?_⟩
      · rw [List.count_eq_zero.mpr h0]
        rfl
      · rw [List.mem_singleton, List.nil_append] at hp
        subst hp
        exact ⟨h0, Nat.le_refl _, fun c hc => hc⟩
    · have e : a ++ 32 :: b = a ++ ([32] ++ b) := rfl
      rw [e, TL.spl_part1 ha]
      have hb : b.length ≤ n := by
        rw [List.length_append, List.length_cons] at h
        omega
      obtain ⟨i1, i2⟩ := spl_facts n b hb
      refine ⟨?_, fun p hp => ?_⟩
      · rw [List.length_cons, i1, List.count_append, List.count_append, List.count_eq_zero.mpr ha]
        show _ = 0 + (1 + _) + 1
        omega
      · rcases List.mem_cons.mp hp with hp | hp
        · rw [List.nil_append] at hp
          subst hp
          refine ⟨ha, by rw [List.length_append]; omega, fun c hc => List.mem_append_left _ hc⟩
        · obtain ⟨j1, j2, j3⟩ := i2 p hp
          refine ⟨j1, by rw [List.length_append, List.length_append]; omega, fun c hc => List.mem_append_right _ (List.mem_append_right _ (j3 c hc))⟩
theorem ws_len (x : Str) : (ws x).length = (tl x).count 32 + 1 := by
  rw [← (spl_facts _ (tl x) (Nat.le_refl _)).1, ← ws_spl, List.length_map]
theorem ws_mem {x p : Str} (h : p ∈ ws x) : 32 ∉ tl p ∧ p.length ≤ x.length ∧ ∀ c ∈ tl p, c ∈ tl x := by
  have := (spl_facts _ (tl x) (Nat.le_refl _)).2 (tl p) (by rw [← ws_spl]; exact List.mem_map_of_mem h)
  refine ⟨this.1, ?_, this.2.2⟩
  have l := this.2.1
  rw [len_cps, len_cps] at l
  exact l
theorem ws_ne (x : Str) : ws x ≠ [] := fun h => by
  have := ws_len x
  rw [h] at this
  simp at this
/-! the kinds of words -/
/-- the word is an amount above 0, written -/
def amtB (x : Str) : Bool := (tl x).all (fun c => decide (48 ≤ c ∧ c ≤ 57)) && !(tl x).isEmpty && decide ((tl x).head? ≠ some 48)
theorem amt_plain {x : Str} (h : amtB x = true) : Plain (tl x) := by
  unfold amtB at h
  simp only [Bool.and_eq_true, List.all_eq_true, decide_eq_true_eq, Bool.not_eq_true', List.isEmpty_eq_false_iff] at h
  exact ⟨h.1.1, h.1.2, h.2⟩
theorem plain_amt {x : Str} (h : Plain (tl x)) : amtB x = true := by
  unfold amtB
  simp only [Bool.and_eq_true, List.all_eq_true, decide_eq_true_eq, Bool.not_eq_true', List.isEmpty_eq_false_iff]
  exact ⟨⟨h.dig, h.ne⟩, h.no⟩
/-- a name behind another one -/
def okN (prev x : Str) : Bool := nameB x && decide (tl prev < tl x)
theorem name_len {x : Str} (h : nameB x = true) : x.length ≤ 8 := by
  unfold nameB at h
  simp only [Bool.and_eq_true, decide_eq_true_eq] at h
  omega
end Wd

set_option Elab.async false
set_option linter.all false
set_option maxRecDepth 100000
set_option maxHeartbeats 4000000
/-! number_of, is_number_text. -/
namespace Wd
open PySem PySem.NumText PySem.Spec PyProof.Rows L2 Fk
open Dg hiding numT
abbrev sNumOf : Stmt := top 25
abbrev sIsNum : Stmt := top 26
def spNumOf : Sp := fun vs H Q _ => ∃ x : Str, vs = [.str x] ∧ AllDigits (tl x) ∧ x.length ≤ 10000 ∧ Q (.int (valT x : Nat)) H
/-- a word that is a number's text -/
def numB (x : Str) : Bool := Txt.isascii x && Txt.isdigit x && (decide (x = "0") || decide ((tl x).head? ≠ some 48))
def spIsNum : Sp := fun vs H Q _ => ∃ x : Str, vs = [.str x] ∧ x.length ≤ 10000 ∧ Q (.bl (numB x)) H
theorem scNumOf : FnScope ["word", "number", "head", "at"] ["word"] (defScope sNumOf) := ⟨rfl, rfl, rfl, by decide +kernel, rfl, by decide +kernel, by decide +kernel⟩
theorem scIsNum : FnScope ["word"] ["word"] (defScope sIsNum) := ⟨rfl, rfl, rfl, by decide +kernel, rfl, by decide +kernel, by decide +kernel⟩
theorem digit_chars {x : Str} (h : (Txt.isascii x && Txt.isdigit x) = true) : AllDigits (tl x) ∧ tl x ≠ [] := by
  unfold Txt.isascii Txt.isdigit at h
  simp only [Bool.and_eq_true, decide_eq_true_eq, ← Array.all_toList, List.all_eq_true] at h
  obtain ⟨h1, h2, h3⟩ := h
  refine ⟨fun c hc => ?_, fun e => ?_⟩
  · have dg : ∀ c, c < 128 → Unicode.isDigit c = true → 48 ≤ c ∧ c ≤ 57 := by decide +kernel
    exact dg c (h1 c hc) (h3 c hc)
  · rw [← len_cps] at h2
    have : (tl x).length > 0 := h2
    rw [e] at this
    exact absurd this (by decide)
theorem chars_digit {x : Str} (h : AllDigits (tl x)) (ne : tl x ≠ []) : (Txt.isascii x && Txt.isdigit x) = true := by
  unfold Txt.isascii Txt.isdigit
  simp only [Bool.and_eq_true, decide_eq_true_eq, ← Array.all_toList, List.all_eq_true]
  refine ⟨fun c hc => ?_, ?_, fun c hc => ?_⟩
  · have := h c hc
    omega
  · rw [← len_cps]
    exact List.length_pos_iff.mpr ne
  · have hc := h c hc
    have : ∀ c, c < 128 → 48 ≤ c → c ≤ 57 → Unicode.isDigit c = true := by decide +kernel
    exact this c (by omega) hc.1 hc.2
/-- an amount above 0: just the number's texts with a number above 0 -/
theorem amt_num (x : Str) : (numB x && decide (1 ≤ valT x)) = amtB x := by
  unfold numB
  cases hd : Txt.isascii x && Txt.isdigit x with
  | false =>
    cases ha : amtB x with
    | false => rfl
    | true =>
      have p := amt_plain ha
      rw [chars_digit p.dig p.ne] at hd
      cases hd
  | true =>
    obtain ⟨h1, h2⟩ := digit_chars hd
    rw [Bool.true_and]
    by_cases e : (tl x).head? = some 48
    · have ha : amtB x = false := by
        cases ha : amtB x with
        | false => rfl
        | true => exact absurd e (amt_plain ha).no
      rw [ha, Bool.and_eq_false_iff]
      by_cases e0 : x = "0"
      · right
        rw [e0]
        decide +kernel
      · left
        rw [decide_eq_false e0, decide_eq_false (fun z => z e)]
        rfl
    · have p : Plain (tl x) := ⟨h1, h2, e⟩
      rw [plain_amt p, decide_eq_true e, Bool.or_true, Bool.true_and]
      exact decide_eq_true (val_pos p)
theorem int_cut {x : Str} (h : AllDigits (tl x)) {lo n : Nat} (hn : 0 < n) (hl : lo + n ≤ x.length) (z : Str) (hz : tl z = ((tl x).drop lo).take n) (n64 : n ≤ 64) : PySem.intText? z = some ((digitsVal (((tl x).drop lo).take n) : Nat) : Int) ∧ z.length ≤ 640 := by
  have lz : z.length = n := by
    rw [← len_cps]
    show (tl z).length = n
    rw [hz, List.length_take, List.length_drop, len_cps]
    omega
  have az : AllDigits (tl z) := by
    rw [hz]
    exact fun c hc => h c (List.mem_of_mem_drop (List.mem_of_mem_take hc))
  refine ⟨?_, by omega⟩
  rw [← hz]
  exact intText_digits az (fun e => by
    have : z.cps.toList.length = 0 := by rw [e]; rfl
    rw [len_cps] at this
    omega) (by omega)
theorem step_size {a b : Nat} (h : b < 2 ^ 60) (k : Nat) (hk : b = a + 64 * k) : RgC (a : Int) (b : Int) 64 k := by
  have e : Builtin.Range.rangeSize (a : Int) (b : Int) 64 = k := by
    unfold Builtin.Range.rangeSize
    rw [if_pos (by decide)]
    by_cases c : (a : Int) < b
    · rw [if_pos c]
      omega
    · rw [if_neg c]
      omega
  have p60 : (2 : Int) ^ 60 = 1152921504606846976 := by decide
  have p63 : (2 : Int) ^ 63 = 9223372036854775808 := by decide
  have n60 : (2 : Nat) ^ 60 = 1152921504606846976 := by decide
  have ft : ∀ z : Int, -(1152921504606846976) ≤ z → z ≤ 1152921504606846976 + 128 → Builtin.Range.rangeFitsLong z = true := fun z h1 h2 => by
    unfold Builtin.Range.rangeFitsLong
    rw [p63, decide_eq_true (show -9223372036854775808 ≤ z by omega), decide_eq_true (show z < 9223372036854775808 by omega)]
    rfl
  refine ⟨by decide, by decide, ?_, e⟩
  unfold Builtin.Range.small
  rw [e]
  rw [ft _ (by omega) (by omega), ft _ (by omega) (by omega), ft 64 (by omega) (by omega), ft _ (by omega) (by omega), if_pos (by decide), ft _ (by omega) (by omega)]
  simp
theorem val_bits {cs : List Nat} (h : AllDigits cs) (hl : cs.length ≤ 10000) : ((digitsVal cs : Nat) : Int).natAbs < 2 ^ 40000 := by
  have h1 := val_lt h
  have h2 : 10 ^ cs.length ≤ 16 ^ cs.length := Nat.pow_le_pow_left (by decide) _
  have h3 : 16 ^ cs.length = 2 ^ (4 * cs.length) := by rw [Nat.pow_mul]
  have h4 : 2 ^ (4 * cs.length) ≤ 2 ^ 40000 := Nat.pow_le_pow_right (by decide) (by omega)
  rw [Int.natAbs_natCast]
  exact Nat.lt_of_lt_of_le h1 (Nat.le_trans h2 (by rw [h3]; exact h4))
theorem cut_tl (x : Str) (lo hi : Nat) (h : lo ≤ hi) (hl : hi ≤ x.length) : tl (cutS x (some (lo : Int)) (some (hi : Int))) = ((tl x).drop lo).take (hi - lo) := by
  show ((x.cps.toList.drop (HT.sIx x.length 0 (some (lo : Int)))).take (HT.sIx x.length x.length (some (hi : Int)) - HT.sIx x.length 0 (some (lo : Int)))).toArray.toList = _
  rw [HT.sIx_nat, HT.sIx_nat, Nat.min_eq_left (Nat.le_trans h hl), Nat.min_eq_left hl]
theorem cut_tl0 (x : Str) (hi : Nat) (hl : hi ≤ x.length) : tl (cutS x none (some (hi : Int))) = ((tl x).drop 0).take hi := by
  show ((x.cps.toList.drop 0).take (HT.sIx x.length x.length (some (hi : Int)) - 0)).toArray.toList = _
  rw [HT.sIx_nat, Nat.min_eq_left hl]
  rfl
section
variable {P : Program} {w : World} {K : PySem.W.Frag} {mg : Str → Option Value} {base : Heap} {f : Addr} {fd : FuncData}
theorem ok_isNum (F : Fun K "is_number_text" "is_number_text" sIsNum f fd) : FnOk P w K mg base CX0 1 f fd ["word"] spIsNum := by
  refine F.ok scIsNum (fun vs H Q E h => ?_) (fun cdv A outer s H vs Q E hr h => ?_)
  · obtain ⟨x, rfl, _⟩ := h
    rfl
  · obtain ⟨x, rfl, hl, q⟩ := h
    refine ⟨_, pss_one (ps_ret (pe_and (pe_bm0 PySem.F.plainAttrs_str PySem.F.slot_str_isascii PySem.F.type_str_isascii mt_isascii (pv 0)) (pe_and (pe_bm0 PySem.F.plainAttrs_str PySem.F.slot_str_isdigit PySem.F.type_str_isdigit mt_isdigit (pv 0))
      (pe_one (pe_or (pe_cmpR op_eq (pv 0) pe_str (nomark _)) (pe_one (pe_cmpR op_ne (pe_item_str (pv 0) pe_int (fun _ _ => rfl)) pe_str (nomark _)))))))), ?_⟩
    refine ⟨_, rfl, rfl, x, rfl, rfl, trivial, _, rfl, ?_⟩
    cases h1 : Txt.isascii x with
    | false =>
      have e : numB x = false := by unfold numB; rw [h1]; rfl
      rw [e] at q
      exact q
    | true =>
      refine ⟨_, rfl, rfl, x, rfl, rfl, trivial, _, rfl, ?_⟩
      cases h2 : Txt.isdigit x with
      | false =>
        have e : numB x = false := by unfold numB; rw [h1, h2]; rfl
        rw [e] at q
        exact q
      | true =>
        obtain ⟨d1, d2⟩ := digit_chars (x := x) (by rw [h1, h2]; rfl)
        have e : numB x = (decide (x = "0") || decide ((tl x).head? ≠ some 48)) := by unfold numB; rw [h1, h2]; rfl
        rw [e] at q
        refine ⟨_, rfl, rfl, _, rfl, ?_⟩
        have ds : decide (V.str x = V.str "0") = decide (x = "0") := by
          by_cases c : x = "0"
          · rw [decide_eq_true c, decide_eq_true (by rw [c])]
          · rw [decide_eq_false c, decide_eq_false (fun z => c (V.str.inj z))]
        rw [ds]
        cases h0 : decide (x = "0") with
        | true =>
          rw [h0] at q
          exact q
        | false =>
          rw [h0, Bool.false_or] at q
          cases hx : tl x with
          | nil => exact absurd hx d2
          | cons c r =>
            have hs : 0 < x.length := by
              rw [← len_cps]
              show 0 < (tl x).length
              rw [hx]
              exact Nat.succ_pos _
            refine ⟨_, rfl, x, 0, c, rfl, rfl, Int.le_refl _, by decide, by omega, ?_, rfl, ?_⟩
            · rw [← Array.getElem?_toList]
              show (tl x)[0]? = some c
              rw [hx]
              rfl
            · have : (!decide (V.str ⟨#[c]⟩ = V.str "0")) = decide ((tl x).head? ≠ some 48) := by
                rw [hx]
                show (!decide (V.str ⟨#[c]⟩ = V.str "0")) = decide (some c ≠ some 48)
                by_cases e : c = 48
                · subst e
                  rfl
                · rw [decide_eq_true (show some c ≠ some 48 from fun z => e (Option.some.inj z))]
                  rw [decide_eq_false]
                  · rfl
                  · intro z
                    have z1 : (⟨#[c]⟩ : Str) = "0" := V.str.inj z
                    have z2 : (#[c] : Array Nat).toList = [48] := congrArg (fun y : Str => y.cps.toList) z1
                    exact e (List.cons.inj z2).1
              rw [this]
              exact q
theorem take_more {x : Str} {lo n : Nat} : (tl x).take (lo + n) = (tl x).take lo ++ ((tl x).drop lo).take n := List.take_add
theorem ok_numOf {tK : Tok} (F : Fun K "number_of" "number_of" sNumOf f fd) (T : Fk.Blt mg) (hR : mg "range" = none) (gC : mg "CHUNK" = some (.int 64 tK)) : FnOk P w K mg base CX0 1 f fd ["word"] spNumOf := by
  have nd := scNumOf.nd
  refine F.ok scNumOf (fun vs H Q E h => ?_) (fun cdv A outer s H vs Q E hr h => ?_)
  · obtain ⟨x, rfl, _⟩ := h
    rfl
  · obtain ⟨x, rfl, hd, hl, q⟩ := h
    refine ⟨_, pss_cons (ps_set (i := 1) nd rfl (Or.inl rfl) pe_int) (pss_cons (ps_set (i := 2) nd rfl (Or.inl rfl) (pe_op op_modN (pe_callB call_len_str (by rfl) T.len PySem.boot_len (pa_cons (pv 0) pa_nil)) (pe_glob (v := .int 64) (by rfl) gC ⟨_, rfl⟩)))
      (pss_cons (ps_if (pt_cmpR op_gt (pv 2) pe_int (nomark _)) (pss_one (ps_set (i := 1) nd rfl (Or.inl rfl) (pe_callTy call_int_str (by rfl) T.int (by decide +kernel) (pa_cons (pe_slice sl_str (pv 0) po_none (po_some (pv 2))) pa_nil)))) pss_nil)
      (pss_cons (ps_for PassesOwn.never rfl (pi_range3 rfl hR (pa_cons (pv 2) (pa_cons (pe_callB call_len_str (by rfl) T.len PySem.boot_len (pa_cons (pv 0) pa_nil)) (pa_cons (pe_glob (v := .int 64) (by rfl) gC ⟨_, rfl⟩) pa_nil)))) (pg_name (i := 3) nd rfl (Or.inl rfl))
        (pss_one (ps_set (i := 1) nd rfl (Or.inl rfl) (pe_op op_add (pe_op op_mulW (pv 1) (pe_op op_pow pe_int pe_int)) (pe_callTy call_int_str (by rfl) T.int (by decide +kernel) (pa_cons (pe_slice sl_str (pv 0) (po_some (pv 3)) (po_some (pe_op op_add (pv 3) (pe_glob (v := .int 64) (by rfl) gC ⟨_, rfl⟩)))) pa_nil))))))
      (pss_one (ps_ret (pv 1)))))), ?_⟩
    generalize hL : x.length = L at *
    have eL : L = L % 64 + 64 * (L / 64) := by omega
    have len0 : (tl x).length = L := by
      show x.cps.toList.length = L
      rw [len_cps, hL]
    have lz : L ≤ sizeLine := by
      rw [sizeLine_eq]
      omega
    have fm : Int.fmod ((L : Nat) : Int) 64 = ((L % 64 : Nat) : Int) := by
      rw [Int.fmod_eq_emod_of_nonneg _ (by decide)]
      rfl
    refine ⟨_, rfl, x, rfl, by rw [hL]; exact lz, _, _, rfl, rfl, (show (64 : Int) ≠ 0 by decide), ?_⟩
    dsimp only
    rw [hL, fm]
    refine ⟨_, rfl, _, _, rfl, rfl, _, rfl, ?_⟩
    have loop : ∀ y : Option V, y = some (.int (digitsVal ((tl x).take (L % 64)) : Nat)) → tSeq (tFor (iRng3 (tCons (tVar 2) (tCons (tCB (fun xs H Q => ∃ a : Str, xs = [.str a] ∧ a.length ≤ sizeLine ∧ Q (.int (a.length : Nat)) H) (tCons (tVar 0) tNil)) (tCons (tC (.int 64)) tNil)))) (gName 3)
        (tAsg (tOp (rI0 fun i j => .int (i + j)) (tOp (rI CMulW fun i j => .int (i * j)) (tVar 1) (tOp (rI CPow fun i j => .int (i ^ j.toNat)) (tC (.int 10)) (tC (.int 64)))) (tCB (fun xs H Q => ∃ a n, xs = [.str a] ∧ PySem.intText? a = some n ∧ a.length ≤ 640 ∧ Q (.int n) H) (tCons (tSl rSlS (tVar 0) (tPart (tVar 3)) (tPart (tOp (rI0 fun i j => .int (i + j)) (tVar 3) (tC (.int 64))))) tNil))) (gName 1)))
        (tRet (tVar 1)) { nx := fun _ H' => Q .non H', rt := Q } [some (.str x), y, some (.int ((L % 64 : Nat) : Int)), none] H := by
      rintro y rfl
      refine ⟨_, rfl, _, rfl, x, rfl, by rw [hL]; exact lz, _, _, _, (L / 64), rfl, step_size (by rw [hL]; exact Nat.lt_of_le_of_lt hl (by decide)) (L / 64) (by rw [hL]; exact eL), for_rangeC (n := L / 64) (fun i σ H' => H' = H ∧ ∃ o, σ = [some (.str x), some (.int (digitsVal ((tl x).take (L % 64 + 64 * i)) : Nat)), some (.int ((L % 64 : Nat) : Int)), o]) ⟨rfl, _, rfl⟩ (fun i σ H' hi h => ?_) (fun σ H' h => ?_)⟩
      · obtain ⟨rfl, o, rfl⟩ := h
        have e1 : (((L % 64 : Nat) : Int) + ((i : Nat) : Int) * 64) = ((L % 64 + 64 * i : Nat) : Int) := by omega
        have hb : L % 64 + 64 * i + 64 ≤ L := by omega
        obtain ⟨c1, c2⟩ := int_cut hd (lo := L % 64 + 64 * i) (n := 64) (by decide) (by omega) (cutS x (some ((L % 64 + 64 * i : Nat) : Int)) (some ((L % 64 + 64 * i + 64 : Nat) : Int))) (by rw [cut_tl x _ _ (by omega) (by omega), show L % 64 + 64 * i + 64 - (L % 64 + 64 * i) = 64 by omega]) (Nat.le_refl _)
        rw [e1]
        refine ⟨_, rfl, 10, 64, rfl, rfl, ⟨by decide, by decide, by decide⟩, _, _, rfl, rfl, ?_, ?_⟩
        · refine wide_mul (a := 40000) (b := 213) (val_bits (fun c hc => hd c (List.mem_of_mem_take hc)) (by rw [List.length_take]; omega)) (by decide) (by decide) (by decide) (by decide)
        · refine ⟨_, rfl, _, rfl, _, rfl, _, rfl, _, _, rfl, rfl, _, rfl, x, rfl, by rw [hL]; exact lz, _, _, rfl, c1, c2, _, _, rfl, rfl, rfl, some (.int ((L % 64 + 64 * i : Nat) : Int)), ?_⟩
          have e2 : (tl x).take (L % 64 + 64 * (i + 1)) = (tl x).take (L % 64 + 64 * i) ++ ((tl x).drop (L % 64 + 64 * i)).take 64 := by
            rw [show L % 64 + 64 * (i + 1) = L % 64 + 64 * i + 64 by omega]
            exact take_more
          have e3 : digitsVal ((tl x).take (L % 64 + 64 * (i + 1))) = digitsVal ((tl x).take (L % 64 + 64 * i)) * 10 ^ 64 + digitsVal (((tl x).drop (L % 64 + 64 * i)).take 64) := by
            rw [e2, val_app, List.length_take, List.length_drop, len0, Nat.min_eq_left (by omega)]
          have ec : ((digitsVal ((tl x).take (L % 64 + 64 * i)) : Nat) : Int) * (10 : Int) ^ (64 : Int).toNat + ((digitsVal (((tl x).drop (L % 64 + 64 * i)).take 64) : Nat) : Int) = ((digitsVal ((tl x).take (L % 64 + 64 * i)) * 10 ^ 64 + digitsVal (((tl x).drop (L % 64 + 64 * i)).take 64) : Nat) : Int) := by
            rw [Int.natCast_add, Int.natCast_mul]
            rfl
          rw [e3, ← ec]
          rfl
      · obtain ⟨rfl, o, rfl⟩ := h
        have : (tl x).take (L % 64 + 64 * (L / 64)) = tl x := by
          rw [← eL, ← len0, List.take_length]
        rw [this]
        exact ⟨_, rfl, q⟩
    refine ite2 (fun c => ?_) (fun c => ?_)
    · obtain ⟨c1, c2⟩ := int_cut hd (lo := 0) (n := L % 64) (by have := of_decide_eq_true c; omega) (by omega) (cutS x none (some ((L % 64 : Nat) : Int))) (cut_tl0 x _ (by omega)) (by omega)
      refine ⟨_, rfl, _, rfl, _, rfl, x, rfl, by rw [hL]; exact lz, _, _, rfl, c1, c2, ?_⟩
      exact loop _ rfl
    · refine loop _ ?_
      have : L % 64 = 0 := by
        have : ¬ ((0 : Int) < ((L % 64 : Nat) : Int)) := fun z => c (decide_eq_true z)
        omega
      rw [this]
      rfl
end
end Wd

set_option Elab.async false
set_option linter.all false
set_option maxRecDepth 100000
set_option maxHeartbeats 4000000
/-! Defs that may raise and are called while nothing is being shown; Table.__init__ with its last two errors. -/
namespace XG
open PySem PySem.Spec PyProof.Rows L2
section
variable {P : Program} {w : World} {K : PySem.W.Frag} {mg : Str → Option Value} {base : Heap} {x qual : Str} {f : Addr} {fd : FuncData} {N ps : List Str} {k : Nat} {sp : Sp}
theorem Fun.okGX {st : Stmt} (F : Fun K x qual st f fd) (S : FnScope N ps (defScope st)) (len : ∀ vs H Q E, sp vs H Q E → vs.length = ps.length)
    (walk : ∀ (cdv : Value) (A : Around) (outer : List Env) (s : Shared) (H : Hp) (vs : List V) (Q : VK) (E : XK), A.guards = some [] → Room k (A.deeper (envOfC qual (defScope st) s.heap.objs.size f cdv)) → sp vs H Q E →
      ∃ t, PSs (cxOf (L2.CX P w) P w K mg base N qual (defScope st) f cdv A outer s H E) (defBody st) t ∧ t { nx := fun _ H' => Q .non H', rt := Q } (start N vs) H) : FnG P w K mg base (L2.CX P w) (k + 1) f fd ps sp := by
  obtain ⟨oc, od, kV, doc, pm, an, cdv, ct, osl, rfl, lk, hcd⟩ := F.ex
  exact fnG_of lk hcd S len fun A outer s H vs Q E gd room h => walk cdv A outer s H vs Q E gd room h
theorem FunD.okGX {params : Arguments} {body : List Stmt} {scope : Scope} {dvs : List V} {kws : List (Str × V)} (F : FunD K x qual params body scope dvs kws f fd) (S : FnScope N ps scope) (len : ∀ vs H Q E, sp vs H Q E → vs.length = ps.length)
    (walk : ∀ (cdv : Value) (A : Around) (outer : List Env) (s : Shared) (H : Hp) (vs : List V) (Q : VK) (E : XK), A.guards = some [] → Room k (A.deeper (envOfC qual scope s.heap.objs.size f cdv)) → sp vs H Q E →
      ∃ t, PSs (cxOf (L2.CX P w) P w K mg base N qual scope f cdv A outer s H E) body t ∧ t { nx := fun _ H' => Q .non H', rt := Q } (start N vs) H) : FnG P w K mg base (L2.CX P w) (k + 1) f fd ps sp := by
  obtain ⟨oc, od, dV, kV, doc, pm, an, cdv, ct, osl, rfl, lk, hcd, _, _⟩ := F.ex
  exact fnG_of lk hcd S len fun A outer s H vs Q E gd room h => walk cdv A outer s H vs Q E gd room h
/-- what raises nothing where it is asked so -/
theorem FnG.calm {sp' : Sp} (F : FnG P w K mg base (L2.CX P w) k f fd ps sp) (h : ∀ vs H Q E, sp' vs H Q E → sp vs H Q E0) : FnG P w K mg base CX0 k f fd ps sp' := fun A outer s H args us vs Q E gd room e0 bd r q => by
  refine codeAny_mono (F A outer s H args us vs Q E0 gd room e0 bd r (h _ _ _ _ q)) fun r s' z => ?_
  cases r with
  | ok fl => cases fl <;> exact z
  | error e =>
    obtain ⟨_, _, _, _, _, _, _, _, _, _, _, _, z⟩ := z
    exact z.elim
end
section
variable {X : Cx} {x : Str} {f C : Addr} {fd : FuncData} {k : Nat} {ps : List Str} {sp : Sp} {e : Expr} {es : List Expr} {t : TA} {p pos : Pos} {E : XK}
/-- the call of a def that may raise: what it lets out is E's business -/
theorem pe_callGX (F : FnG X.prog X.w X.K X.mg X.base (L2.CX X.prog X.w) k f fd ps sp) (len : ∀ vs H Q E, sp vs H Q E → vs.length = ps.length) (gd : X.A.guards = some []) (hr : Room k X.A) (hg : Gl X x) (hm : X.mg x = some (.ref f)) (hk : PySem.W.keepIn X.K (.ref f) = true) (hb : Binds X.K fd ps [])
    (hx : ∀ σ, PassesAt (L2.CX X.prog X.w) X σ E) (ha : PA X (e :: es) t) (hdb : (x == ("__debug__" : Str)) = false := by decide) (he : starEach (e :: es) X.env = (false, eval e X.env) :: starEach es X.env := by rfl) (hpl : (backTo pos (starEach es X.env)).any (·.1) = false := by rfl) :
    PE X (.Call (.Name x p) (e :: es) [] pos) (tCall sp [] E t) := by
  refine ⟨fun pins s σ H Q I h => wpAny_Call_Name_kw (ld_glob I hg hm (PySem.W.callWith_K (h₀ := X.base) I.ok.mod.kin hk (thn (ha.run pos pins s σ H _ I h) fun us s1 ⟨vs, H1, I1, r, q⟩ => ⟨I1.kIn, ?_⟩) he hpl) hdb)⟩
  replace q : sp vs H1 Q E := by
    have z : sp (vs ++ []) H1 Q E := q
    rw [List.append_nil] at z
    exact z
  have n : (us ++ []).length = ps.length := by rw [List.append_nil, ← r.length]; exact len _ _ _ _ q
  refine wpAny_call (codeAny_mono (F X.A X.stack s1 H1 ⟨us, []⟩ (us ++ []) vs Q E gd hr I1.env0 (hb s1 us I1.kIn n) (by rw [List.append_nil]; exact r) q) fun r' s' z => ?_)
  cases r' with
  | error e => exact hx σ pins H1 s1 e s' I1 z
  | ok fl => cases fl with
    | ret u => exact I1.after z
    | _ => exact (show False from z).elim
theorem run_makeGX {pins : List (Addr × Obj)} {σ : L2.St} {H : Hp} {s : Shared} {Q : VK} {us : List Value} {vs : List V} (M : Mk X.K C f) (F : FnG X.prog X.w X.K X.mg X.base (L2.CX X.prog X.w) k f fd ps sp) (len : ∀ vs H Q E, sp vs H Q E → vs.length = ps.length) (gd : X.A.guards = some []) (hr : Room (k + 1) X.A) (hb : Binds X.K fd ps [])
    (hx : ∀ σ, PassesAt (L2.CX X.prog X.w) X σ E) (I : Inv X pins σ H s) (r : Vals vs us) (h : ∀ x dx, H x = none → H dx = none → dx ≠ x → sp (.ref x :: vs) (upd (upd H dx (.own x)) x (.ins C dx [])) (fun v H2 => v = .non ∧ Q (.ref x) H2) E) : wpAny (model X.prog X.w) X.A (call (.ref C) us) (EP X pins σ Q) X.xe s := by
  have q := h (s.heap.objs.size + 1) s.heap.objs.size (I.hok.fresh (Nat.le_succ _)) (I.hok.fresh (Nat.le_refl _)) (Nat.ne_of_lt (Nat.lt_succ_self _))
  have J := Inv.made (C := C) I
  have rr : Vals (V.ref (s.heap.objs.size + 1) :: vs) (Value.ref (s.heap.objs.size + 1) :: us) := .cons rfl r
  have n : (Value.ref (s.heap.objs.size + 1) :: us ++ []).length = ps.length := by rw [List.append_nil, ← rr.length]; exact len _ _ _ _ q
  refine wpAny_call (make_map (f := f) I.kIn M.makes M.init (beq_iff_eq.mp M.fn) (codeAny_mono (F _ X.stack _ _ ⟨Value.ref (s.heap.objs.size + 1) :: us, []⟩ (Value.ref (s.heap.objs.size + 1) :: us ++ []) _ _ E gd (hr.make C us []) (J.env0.make C us []) (hb _ (Value.ref (s.heap.objs.size + 1) :: us) J.kIn n) (by rw [List.append_nil]; exact rr) q) fun r' s' z => ?_))
  cases r' with
  | error e => exact hx σ pins _ _ e s' J z
  | ok fl => cases fl with
    | ret u =>
      obtain ⟨v, H', I3, rv, ev, q3⟩ := J.after z
      subst ev
      exact ⟨rv, V.ref (s.heap.objs.size + 1), H', I3, rfl, q3⟩
    | _ => exact (show False from z).elim
def tMakeGX (C : Addr) (sp : Sp) (E : XK) (t : TA) : TE := fun σ H Q => t σ H fun vs H1 => ∀ x dx, H1 x = none → H1 dx = none → dx ≠ x → sp (.ref x :: vs) (upd (upd H1 dx (.own x)) x (.ins C dx [])) (fun v H2 => v = .non ∧ Q (.ref x) H2) E
theorem pe_makeGX (M : Mk X.K C f) (F : FnG X.prog X.w X.K X.mg X.base (L2.CX X.prog X.w) k f fd ps sp) (len : ∀ vs H Q E, sp vs H Q E → vs.length = ps.length) (gd : X.A.guards = some []) (hr : Room (k + 1) X.A) (hb : Binds X.K fd ps []) (hx : ∀ σ, PassesAt (L2.CX X.prog X.w) X σ E) (hg : Gl X x) (hm : X.mg x = some (.ref C))
    (ha : PA X (e :: es) t) (hdb : (x == ("__debug__" : Str)) = false := by decide) (he : starEach (e :: es) X.env = (false, eval e X.env) :: starEach es X.env := by rfl) (hpl : (backTo pos (starEach es X.env)).any (·.1) = false := by rfl) : PE X (.Call (.Name x p) (e :: es) [] pos) (tMakeGX C sp E t) := by
  refine ⟨fun pins s σ H Q I h => wpAny_Call_Name_kw (ld_glob I hg hm ?_ hdb)⟩
  exact PySem.W.callWith_K (h₀ := X.base) I.ok.mod.kin M.kp (thn (ha.run pos pins s σ H _ I h) fun us s1 ⟨vs, H1, I1, r, q⟩ => ⟨I1.kIn, run_makeGX M F len gd hr hb hx I1 r q⟩) he hpl
end
end XG
namespace Tb
open PySem PySem.Spec PyProof.Rows L2 EvP Cm Fk DtE KyS XG
theorem g_gtB {K : PySem.W.Frag} {σ : L2.St} {H : Hp} {te : TE} {xs : List V} (h : EvP.Gives te σ H (tupV xs)) {r : List V → Hp → VK → Prop} (hr : ∀ p H1 Q, SqT K H1 p xs → Q (.int (xs.length : Nat)) H1 → r [.ref p] H1 Q) :
    Tst (tTest (tOp (rI0 fun i j => .bl (decide (j < i))) (tCB r (tCons te tNil)) (tC (.int 6)))) σ H (decide (6 < xs.length)) :=
  t_test (g_op (P := is (.int (xs.length : Nat))) (R := is (.int 6)) (g_call h fun v H1 e ⟨a, ev, ha⟩ Q q => by
    subst ev
    exact hr a H1 Q (SqT.of ha) (q _ _ (Ex.refl _) rfl)) EvP.cst fun x y H1 e ex ey Q q => ⟨(xs.length : Nat), 6, ex, ey, q _ _ (Ex.refl _) (by
    show V.bl (decide ((6 : Int) < (xs.length : Nat))) = V.bl (decide (6 < xs.length))
    by_cases c : 6 < xs.length
    · rw [decide_eq_true c, decide_eq_true (by omega)]
    · rw [decide_eq_false c, decide_eq_false (by omega)])⟩)
/-- if t: ..; both ways -/
theorem st_ifB {tt : TT} {t u : TS} {D : Ends} {σ : L2.St} {H : Hp} {b : Bool} (h : Tst tt σ H b) (kT : b = true → ∀ H1, Ex H H1 → t { D with nx := u D } σ H1) (kF : b = false → ∀ H1, Ex H H1 → u D σ H1) : tSeq (tIfS tt t tNext) u D σ H := h H (Ex.refl H) _ fun H1 e => by
  cases b with
  | true => exact kT rfl H1 e
  | false => exact kF rfl H1 e
/-- the error's class, as the top has written it -/
structure ManyC (P : Program) (w : World) (K : PySem.W.Frag) (mg : Str → Option Value) (base : Heap) (CT fE : Addr) (fdE : FuncData) : Prop where
  T : OexC K CT
  iC : PySem.W.findIn K (.ref CT) "__init__" = some (some (.ref fE))
  tI : PySem.W.typeIn K (.ref fE) = some (.type "function")
  n1 : PySem.W.findIn K (.ref CT) "what" = some none
  n2 : PySem.W.findIn K (.ref CT) "most" = some none
  G : FnOk P w K mg base CX0 1 fE fdE ["self", "what", "most"] (spInit2 K "what" "most")
  b : Binds K fdE ["self", "what", "most"] []
  g : mg "TooMany" = some (.ref CT)
/-- what a TooMany keeps -/
abbrev manyF (s : Str) : List (Str × V) := [(("most" : Str), V.int 6), (("what" : Str), V.str s)]
/-- raise TooMany(s, 6): the way out -/
theorem raise_many {P : Program} {w : World} {K : PySem.W.Frag} {mg : Str → Option Value} {base : Heap} {CT fE : Addr} {fdE : FuncData} {σ : L2.St} {H : Hp} {s : Str} {E : XK} (L : ManyC P w K mg base CT fE fdE) (k : ∀ d H', Ex H H' → H' d = some (.xd (manyF s)) → E (.ref CT) (some d) H') :
    tMkO CT (spInit2 K "what" "most") [] (tCons (tC (.str s)) (tCons (tC (.int 6)) tNil)) σ H (fun cls d H' => E cls d H') := by
  refine ⟨(by show 2 ≤ 1000; decide), fun a ha => ?_⟩
  refine ⟨a, CT, .str s, .int 6, rfl, L.T, L.n1, L.n2, upd_same, fun d hd ne => ?_⟩
  have hd' : H d = none := by rw [upd_ne ne] at hd; exact hd
  refine ⟨rfl, d, manyF s, by rw [upd_ne ne.symm, upd_same], upd_same, hd', ?_⟩
  refine k d _ (fun b o z => ?_) upd_same
  rw [upd_ne (ne_of_none z hd'), del_ne (ne_of_none z ha), upd_ne (ne_of_none z hd'), upd_ne (ne_of_none z ha), upd_ne (ne_of_none z hd'), upd_ne (ne_of_none z ha)]
  exact z
/-- all but x stays -/
abbrev ButX (x : Addr) (H H' : Hp) : Prop := ∀ b o, H b = some o → b ≠ x → H' b = some o
theorem names_le {T : Tab} (ok : TabOk T) : (namesOf T).length ≤ 31 * T.length := by
  have l : ∀ (S : Tab), (∀ t ∈ S, t ∈ T) → (namesOf S).length ≤ 31 * S.length := fun S => by
    induction S with
    | nil => intro _; exact Nat.zero_le _
    | cons t S ih =>
      intro h
      have := ih fun t' ht' => h t' (.tail _ ht')
      have := (ok.row t (h t (.head _))).2.2
      unfold namesOf at *
      rw [List.flatMap_cons, List.length_append, List.length_map, List.length_cons]
      omega
  exact l T fun _ h => h
def spTIX (K : PySem.W.Frag) (C CT : Addr) : Sp := fun vs H Q E => ∃ (x d u dx : Addr) (T : Tab) (us : List Str), vs = [.ref x, .ref d, .ref u] ∧ H x = some (.ins C dx []) ∧ TabAt H d T ∧ TabOk T ∧ SqA K H u (us.map V.str) ∧ (∀ n ∈ us, NameV (.str n)) ∧ us.length + (namesOf T).length ≤ 1000 ∧
  (6 < T.length → ∀ dd H', ButX x H H' → H' dd = some (.xd (manyF "sources")) → E (.ref CT) (some dd) H') ∧ (T.length ≤ 6 → 6 < (usesOf us T).length → ∀ dd H', ButX x H H' → H' dd = some (.xd (manyF "uses")) → E (.ref CT) (some dd) H') ∧
  (T.length ≤ 6 → (usesOf us T).length ≤ 6 → ∀ H', ButX x H H' → TblAt C H' x (srt (T.map (·.1))) (usesOf us T) (worths T) → Q .non H')
theorem spTIX_len {K : PySem.W.Frag} {C CT : Addr} : ∀ vs H Q E, spTIX K C CT vs H Q E → vs.length = (["self", "rows", "uses"] : List Str).length := fun vs H Q E h => by
  obtain ⟨x, d, u, dx, T, us, rfl, _⟩ := h
  rfl
theorem spTI_X {K : PySem.W.Frag} {C CT : Addr} : ∀ vs H Q E, spTI K C vs H Q E → spTIX K C CT vs H Q E0 := fun vs H Q E h => by
  obtain ⟨x, d, u, dx, T, us, h1, h2, h3, h4, h5, h6, h7, h8, h9, h10⟩ := h
  exact ⟨x, d, u, dx, T, us, h1, h2, h3, h4, h6, h7, (by have := names_le h4; omega), fun c => by omega, fun _ c => by omega, fun _ _ => h10⟩
section
variable {P : Program} {w : World} {K : PySem.W.Frag} {mg : Str → Option Value} {base : Heap} {C CT f fC fA fJ fE : Addr} {fd fdC fdA fdJ fdE : FuncData} {dvs : List V} {kws : List (Str × V)}
theorem ok_tinitX {t6 : Tok} (F : FunD K "__init__" "Table.__init__" (defArgs sTI) (defBody sTI) (defScope sTI) dvs kws f fd) (S : TblC K C) (L : ManyC P w K mg base CT fE fdE) (T : Blt mg) (R : BltR mg) (gM : mg "MOST_NAMES" = some (.int 6 t6))
    (GC : FnOk P w K mg base CX0 4 fC fdC ["rows", "uses"] (spCheck K)) (bC : Binds K fdC ["rows", "uses"] []) (gC : mg "check_table" = some (.ref fC)) (kC : PySem.W.keepIn K (.ref fC) = true)
    (GA : FnG P w K mg base CX0 1 fA fdA ["values"] (spAsc K)) (bA : Binds K fdA ["values"] []) (gA : mg "ascending" = some (.ref fA)) (kA : PySem.W.keepIn K (.ref fA) = true)
    (GJ : FnG P w K mg base CX0 3 fJ fdJ ["one", "other"] (spJoined K)) (bJ : Binds K fdJ ["one", "other"] []) (gJ : mg "joined" = some (.ref fJ)) (kJ : PySem.W.keepIn K (.ref fJ) = true) :
    FnG P w K mg base (L2.CX P w) 5 f fd ["self", "rows", "uses"] (spTIX K C CT) := by
  have nd := scTI.nd
  refine FunD.okGX F scTI spTIX_len fun cdv A outer s H vs Q E gd hr h => ?_
  obtain ⟨x, d, u, dx, Tb, us, rfl, hx, hT, ok, hU, nU, fu, kS, kU, q⟩ := h
  have hu : A.units + 3 + 1 < cLine := by
    have : A.units + 3 + 16 * 4 + 200 < cLine := hr.un
    omega
  refine ⟨_, pss_cons (ps_expr (pe_call GC hr (by rfl) gC kC bC .nil pass0 (pa_cons (pv 1) (pa_cons (pv 2) pa_nil))))
    (pss_cons (ps_fld (pv 0) (pe_callG GA spAsc_len gd (hr.mono (by decide)) (by rfl) gA kA bA (pa_cons (pe_callTy (T := "list") (call_listD rfl) (by rfl) R.list (by decide +kernel) (pa_cons (pv 1) pa_nil)) pa_nil)) rfl)
    (pss_cons (ps_fld (pv 0) (pe_callG GJ spJoined_len gd (hr.mono (by decide)) (by rfl) gJ kJ bJ (pa_cons (pv 2) (pa_cons (pe_lockL (pe_lc2 (own := [("row", 3), ("use", 4)]) (vs1 := [4]) (g := gName 3) (tt := tYes) (wi1 := iKeys (tVar 3)) (g1 := gName 4) (tt1 := tYes) (te := tVar 4) rfl nd (pi_values (pv 1)) (blkOk_by (N := NI) (sc := defScope sTI) (by decide +kernel)) (by decide)
        (fun _ _ _ _ _ => pg_name (i := 3) nd rfl (Or.inl rfl)) (fun _ _ _ _ _ => pts_nil) (fun _ _ _ _ _ => pi_keys (pv 3)) (fun _ _ _ _ _ => pg_name (i := 4) nd rfl (Or.inl rfl)) (fun _ _ _ _ _ => pts_nil) (fun _ _ _ _ _ => pv 4))) pa_nil))) rfl)
    (pss_cons (ps_if (pt_cmpR op_gt (pe_callB call_len_seq (by rfl) T.len PySem.boot_len (pa_cons (pe_fld (pv 0) rfl) pa_nil)) (pe_glob (v := .int 6) (by rfl) gM ⟨_, rfl⟩) (nomark _)) (pss_one (ps_raise (W := fun cls d _ H => E cls d H) rfl (takes_of rfl rfl rfl rfl) (pmk_oex (CX := CX0) L.T L.iC L.tI L.G (hr.mono (by decide)) L.b .nil pass0 (by rfl) L.g (pa_cons pe_str (pa_cons (pe_glob (v := .int 6) (by rfl) gM ⟨_, rfl⟩) pa_nil))))) pss_nil)
    (pss_cons (ps_if (pt_cmpR op_gt (pe_callB call_len_seq (by rfl) T.len PySem.boot_len (pa_cons (pe_fld (pv 0) rfl) pa_nil)) (pe_glob (v := .int 6) (by rfl) gM ⟨_, rfl⟩) (nomark _)) (pss_one (ps_raise (W := fun cls d _ H => E cls d H) rfl (takes_of rfl rfl rfl rfl) (pmk_oex (CX := CX0) L.T L.iC L.tI L.G (hr.mono (by decide)) L.b .nil pass0 (by rfl) L.g (pa_cons pe_str (pa_cons (pe_glob (v := .int 6) (by rfl) gM ⟨_, rfl⟩) pa_nil))))) pss_nil)
    (pss_cons (ps_fld (pv 0) (pe_lockL (Dc2.pe_dc2 (own := [("a", 5), ("row", 3), ("x", 6), ("worth", 7)]) (vs1 := [6, 7]) (g := gTup K 2 (gCons (gName 5) (gCons (gName 3) gNil))) (tt := tYes) (wi1 := iItems (tVar 3)) (g1 := gTup K 2 (gCons (gName 6) (gCons (gName 7) gNil)))
        (tt1 := tTest (tOp (rI0 fun i j => .bl (decide (j < i))) (tVar 7) (tC (.int 0)))) (tk := tTup (tCons (tVar 5) (tCons (tVar 6) tNil))) (tv := tVar 7) hu rfl nd (by exact pi_items (pv 1)) (blkOk_by (N := NI) (sc := defScope sTI) (by decide +kernel)) (by decide)
        (fun _ _ _ _ _ => by exact pg_tup rfl (pgs_cons (pg_name (i := 5) nd rfl (Or.inl rfl)) (pgs_cons (pg_name (i := 3) nd rfl (Or.inl rfl)) pgs_nil))) (fun _ _ _ _ _ => pts_nil) (fun _ _ _ _ _ => by exact pi_items (pv 3))
        (fun _ _ _ _ _ => by exact pg_tup rfl (pgs_cons (pg_name (i := 6) nd rfl (Or.inl rfl)) (pgs_cons (pg_name (i := 7) nd rfl (Or.inl rfl)) pgs_nil))) (fun _ _ _ _ _ => pts_one (pt_cmpR op_gt (pv 7) pe_int (nomark _)))
        (fun _ _ _ _ _ => pe_tup (pa_cons (pv 5) (pa_cons (pv 6) pa_nil))) (fun _ _ _ _ _ => pv 7))) rfl)
    (pss_one (ps_fld (pv 0) (pe_callG GA spAsc_len gd (hr.mono (by decide)) (by rfl) gA kA bA (pa_cons (pe_callTy (T := "list") (call_list_dT rfl) (by rfl) R.list (by decide +kernel) (pa_cons (pe_fld (pv 0) rfl) pa_nil)) pa_nil)) rfl))))))), ?_⟩
  refine ⟨_, rfl, _, rfl, d, u, Tb, us, rfl, hT, ok, hU, nU, fun H1 e1 => ?_⟩
  dsimp only
  have hx1 := e1 _ _ hx
  have en : (Tb.map fun t => ((Sum.inr t.1 : Key), V.ref t.2.1)).map (fun kv => kV kv.1) = (Tb.map (·.1)).map V.str := by
    rw [List.map_map, List.map_map]
    rfl
  -- sources
  refine' st_fld ?s1 ?k1
  case s1 =>
    refine g_ascL (ns := Tb.map (·.1)) ?_
    rw [← en]
    exact g_listD rfl (e1 _ _ hT.at_)
  intro v1 H2 e2 ⟨n1, ev, h1⟩
  subst ev
  have hx2 := e2 _ _ hx1
  have ne1 : n1 ≠ x := ne_of h1 hx2 (fun z => nomatch z)
  refine ⟨x, C, dx, [], rfl, hx2, S.cl, S.nS, by show 0 < 1000; decide, ?_⟩
  have k2 : ∀ b o, H b = some o → b ≠ x → upd H2 x (.ins C dx (putF "sources" (.ref n1) [])) b = some o := fun b o h ne => by
    rw [upd_ne ne]
    exact e2 _ _ (e1 _ _ h)
  have f2 := upd_same (H := H2) (a := x) (o := .ins C dx (putF "sources" (.ref n1) []))
  have g1 : upd H2 x (.ins C dx (putF "sources" (.ref n1) [])) n1 = some (.tup ((srt (Tb.map (·.1))).map V.str)) := by
    rw [upd_ne ne1]
    exact h1
  generalize upd H2 x (.ins C dx (putF "sources" (.ref n1) [])) = G2 at k2 f2 g1 ⊢
  have T2 := hT.but hx k2
  have U2 := SqA.but hx k2 hU
  -- uses
  refine' st_fld (P := tupV ((usesOf us Tb).map V.str)) ?s2 ?k2
  case s2 =>
    intro H3 e3 Q3 q3
    refine ⟨_, rfl, g_uses (T2.ex e3) ok H3 (Ex.refl H3) _ fun v H4 e4 ⟨b, eb, hb⟩ => ?_⟩
    subst eb
    refine ⟨u, b, us, namesOf Tb, rfl, SqA.keep (e3.trans e4) U2, .inl (SqL.of hb), by omega, fun p H5 e5 np h5 => q3 _ H5 (e4.trans e5) ⟨p, rfl, h5⟩⟩
  intro v2 H3 e3 ⟨n2, ev, h2⟩
  subst ev
  have hx3 := e3 _ _ f2
  have ne2 : n2 ≠ x := ne_of h2 hx3 (fun z => nomatch z)
  refine ⟨x, C, dx, _, rfl, hx3, S.cl, S.nU, by show 1 < 1000; decide, ?_⟩
  have k3 : ∀ b o, G2 b = some o → b ≠ x → upd H3 x (.ins C dx (putF "uses" (.ref n2) (putF "sources" (.ref n1) []))) b = some o := fun b o h ne => by
    rw [upd_ne ne]
    exact e3 _ _ h
  have f3 := upd_same (H := H3) (a := x) (o := .ins C dx (putF "uses" (.ref n2) (putF "sources" (.ref n1) [])))
  have g2 : upd H3 x (.ins C dx (putF "uses" (.ref n2) (putF "sources" (.ref n1) []))) n2 = some (.tup ((usesOf us Tb).map V.str)) := by
    rw [upd_ne ne2]
    exact h2
  generalize upd H3 x (.ins C dx (putF "uses" (.ref n2) (putF "sources" (.ref n1) []))) = G3 at k3 f3 g2 ⊢
  have g1' := k3 _ _ g1 ne1
  have T3 := T2.but f2 k3
  -- too many
  have s6 : ((srt (Tb.map (·.1))).map V.str).length = Tb.length := by
    rw [List.length_map, (srt_perm _).length_eq, List.length_map]
  have back : ∀ H', Ex G3 H' → ButX x H H' := fun H' e b o h ne => e _ _ (k3 _ _ (k2 _ _ h ne) ne)
  refine st_ifB (g_gtB (K := K) (g_fld rfl f3 S.cl S.nS rfl (⟨n1, rfl, g1'⟩ : (tupV ((srt (Tb.map (·.1))).map V.str)).R (.ref n1) G3)) fun p H1 Q h q => ⟨p, _, rfl, .inr h, q⟩) (fun c6 H4 e4 => ?_) fun c6 H4 e4 => ?_
  · rw [s6, decide_eq_true_eq] at c6
    exact raise_many L fun dd H5 e5 hd => kS c6 dd H5 (back H5 (e4.trans e5)) hd
  rw [s6, decide_eq_false_iff_not] at c6
  have l6 : Tb.length ≤ 6 := by omega
  refine st_ifB (g_gtB (K := K) (g_fld rfl (e4 _ _ f3) S.cl S.nU rfl (⟨n2, rfl, e4 _ _ g2⟩ : (tupV ((usesOf us Tb).map V.str)).R (.ref n2) H4)) fun p H1 Q h q => ⟨p, _, rfl, .inr h, q⟩) (fun c7 H5 e5 => ?_) fun c7 H5 e5 => ?_
  · rw [List.length_map, decide_eq_true_eq] at c7
    exact raise_many L fun dd H6 e6 hd => kU l6 c7 dd H6 (back H6 ((e4.trans e5).trans e6)) hd
  rw [List.length_map, decide_eq_false_iff_not] at c7
  replace q := q l6 (by omega)
  have e45 := e4.trans e5
  have T5 := T3.ex e45
  have f5 := e45 _ _ f3
  -- worths
  refine' st_fld (P := dictT H5 (worths Tb)) ?s3 ?k3
  case s3 =>
    refine g_lock (locks_nod T5 ok.nodA) (locks_at T5) (P0 := ⟨fun v Hz => ∃ a, v = .ref a ∧ Hz a = some (.dT (tents (worths Tb))) ∧ H5 a = none, fun _ _ _ e ⟨a, h1, h2, h3⟩ => ⟨a, h1, e _ _ h2, h3⟩⟩) (fun H6 e6 Hf fr => ?_) fun v H6 Hf H7 H8 e6 fr e7 th ⟨a, ev, ha, na⟩ => ⟨a, ev, th.new fr e7 ha fun _ _ z => (nomatch z), na⟩
    refine Gives.imp (comp_worths (K := K) (Froz.tab fr) (worths_nod ok) (Nat.le_trans (worths_few ok) (by decide))) fun v Hz ⟨a, ev, ha, na⟩ => ⟨a, ev, ha, ?_⟩
    cases hz : H5 a with
    | none => rfl
    | some o =>
      exfalso
      by_cases m : a ∈ (locks d Tb).map (·.1)
      · obtain ⟨p, hp, rfl⟩ := List.mem_map.mp m
        obtain ⟨od, y⟩ := fr.at_ p hp
        rw [y] at na
        cases na
      · rw [fr.old a m, e6 _ _ hz] at na
        cases na
  intro v3 H6 e6 ⟨dw, ev, h3, nw⟩
  subst ev
  have hx6 := e6 _ _ f5
  have ne3 : dw ≠ x := ne_of h3 hx6 (fun z => nomatch z)
  refine ⟨x, C, dx, _, rfl, hx6, S.cl, S.nW, by show 2 < 1000; decide, ?_⟩
  have k6 : ∀ b o, G3 b = some o → b ≠ x → upd H6 x (.ins C dx (putF "_worths" (.ref dw) (putF "uses" (.ref n2) (putF "sources" (.ref n1) [])))) b = some o := fun b o h ne => by
    rw [upd_ne ne]
    exact e6 _ _ (e45 _ _ h)
  have f6' := upd_same (H := H6) (a := x) (o := .ins C dx (putF "_worths" (.ref dw) (putF "uses" (.ref n2) (putF "sources" (.ref n1) []))))
  have g3 : upd H6 x (.ins C dx (putF "_worths" (.ref dw) (putF "uses" (.ref n2) (putF "sources" (.ref n1) [])))) dw = some (.dT (tents (worths Tb))) := by
    rw [upd_ne ne3]
    exact h3
  generalize upd H6 x (.ins C dx (putF "_worths" (.ref dw) (putF "uses" (.ref n2) (putF "sources" (.ref n1) [])))) = G6 at k6 f6' g3 ⊢
  have g1'' := k6 _ _ g1' ne1
  have g2'' := k6 _ _ g2 ne2
  -- pairs
  refine' st_fld1 (P := tup ((sortK ((worths Tb).map (·.1))).map fun k => tupV (k.map kV))) ?s4 ?k4
  case s4 =>
    intro H7 e7 Q7 q7
    refine g_fld (K := K) (P := is (.ref dw)) rfl f6' S.cl S.nW rfl rfl H7 e7 _ fun v H8 e8 ev => ?_
    cases (show v = .ref dw from ev)
    refine ⟨dw, tents (worths Tb), rfl, .inl (e8 _ _ (e7 _ _ g3)), fun p bs hp kk => ?_⟩
    have kk2 : IsKeys (upd H8 p (.lst (bs.map V.ref))) (tents (worths Tb)) bs := Paired.mapP kk fun _ _ z => Ex.new hp _ _ z
    obtain ⟨a1, a2⟩ := asc_pairs kk2 (worths_pair ok)
    exact ⟨p, bs.map V.ref, _, rfl, SqL.of upd_same, a1, fun p2 H9 e9 np h9 => q7 _ H9 ((e8.trans (Ex.new hp)).trans e9) ⟨p2, _, rfl, h9, a2.ex e9⟩⟩
  intro v4 H7 e7 ⟨p, prs, ev, h4, hprs⟩
  subst ev
  have hx7 := e7 _ _ f6'
  have ne4 : p ≠ x := ne_of h4 hx7 (fun z => nomatch z)
  refine ⟨x, C, dx, _, rfl, hx7, S.cl, S.nP, by show 3 < 1000; decide, ?_⟩
  have un : ∀ {b o o'}, H7 b = some o → b ≠ x → upd H7 x o' b = some o := fun h ne => by
    rw [upd_ne ne]
    exact h
  exact q _ (fun b o h ne => un (e7 _ _ (k6 _ _ (k3 _ _ (k2 _ _ h ne) ne) ne)) ne) ⟨dx, n1, n2, dw, p, prs, upd_same, un (e7 _ _ g1'') ne1, un (e7 _ _ g2'') ne2, un (e7 _ _ g3) ne3, un h4 ne4, keys_stay hx7 (fun ys z => nomatch z) hprs⟩
end
end Tb

set_option Elab.async false
set_option linter.all false
set_option maxRecDepth 100000
set_option maxHeartbeats 4000000
/-! try: .. except X as error: caught = error: the exception is held by a name behind the try. -/
namespace L2
open PySem PySem.Spec PyProof.Rows
/-- at a: an exception that was caught; its class, its dict -/
def ExK (cls : Value) (d : Option Addr) (a : Addr) : HO := .ext fun h => ∃ (oe : Obj) (vs : Array Value), h.get? a = some oe ∧ Zc cls d oe ∧ oe.data = .fields vs
theorem exK_ok {P : Program} {w : World} {H : Hp} {h : Heap} {a : Addr} {cls : Value} {d : Option Addr} {oe : Obj} {vs : Array Value} (e : h.get? a = some oe) (z : Zc cls d oe) (k : oe.data = .fields vs) : ObjOk P w H h a (ExK cls d a) :=
  ⟨⟨oe, vs, e, z, k⟩, ⟨oe, e⟩, fun _ _ ⟨o, v, q, r⟩ k => ⟨o, v, k o q, r⟩⟩
theorem exK_at {P : Program} {w : World} {H : Hp} {h : Heap} {a : Addr} {cls : Value} {d : Option Addr} (hok : HOk P w H h) (e : H a = some (ExK cls d a)) : ∃ (oe : Obj) (vs : Array Value), h.get? a = some oe ∧ Zc cls d oe ∧ oe.data = .fields vs := by
  have x : ObjOk P w H h a (.ext fun h => ∃ (oe : Obj) (vs : Array Value), h.get? a = some oe ∧ Zc cls d oe ∧ oe.data = .fields vs) := hok a _ e
  exact x.1
section
variable {X : Cx} {pins : List (Addr × Obj)} {σ : St} {H : Hp} {s : Shared}
/-- a pinned exception, new since the entry, is tracked from now on -/
theorem Inv.track {a : Addr} {oe : Obj} {vs : Array Value} {cls : Value} {d : Option Addr} (J : Inv X ((a, oe) :: pins) σ H s) (h0 : X.s_0.heap.get? a = none) (hp : ∀ p ∈ X.pn ++ pins, p.1 ≠ a) (z : Zc cls d oe) (hd : oe.data = .fields vs) :
    Inv X pins σ (upd H a (ExK cls d a)) s := by
  obtain ⟨ha, na, nL, nF, nc⟩ := J.pin (a, oe) (List.mem_append_right _ List.mem_cons_self)
  have n0 : ∀ b o, X.s_0.heap.get? b = some o → b ≠ a := fun b o e q => by
    rw [q, h0] at e
    cases e
  refine ⟨J.ok, J.os, J.bare, ⟨J.base.keep, J.base.slot, fun b o e n hx => ?_, J.base.there, fun b xs e => ?_, fun b o u e => ?_, fun b ps e => ?_⟩, J.loc, J.cell, ?_, fun x c e => ?_, fun p h => ?_, J.hok.laidN (fun _ _ q => q) na (exK_ok ha z hd), J.len⟩
  · rw [upd_ne (n0 b o e)]
    exact J.base.free b o e n hx
  · have q := J.base.tups b xs e
    rw [upd_ne (ne_of_none q na)]
    exact q
  · have q := J.base.frzs b o u e
    rw [upd_ne (ne_of_none q na)]
    exact q
  · obtain ⟨more, q⟩ := J.base.tbls b ps e
    exact ⟨more, by rw [upd_ne (ne_of_none q na)]; exact q⟩
  · rw [upd_ne nL.symm]
    exact J.free
  · have ne : c ≠ a := by
      rintro rfl
      obtain ⟨v, hv⟩ := J.cell x _ e
      obtain ⟨o, ho, hdv⟩ := hv
      rw [ha] at ho
      cases ho
      exact nc _ hdv
    rw [upd_ne ne]
    exact J.freeC x c e
  · have hm : p ∈ X.pn ++ (a, oe) :: pins := by
      rcases List.mem_append.mp h with h | h
      · exact List.mem_append_left _ h
      · exact List.mem_append_right _ (List.mem_cons_of_mem _ h)
    obtain ⟨e1, e2, e3⟩ := J.pin p hm
    exact ⟨e1, by rw [upd_ne (hp p h)]; exact e2, e3⟩
theorem Inv.suitePin {a : Addr} {q : Addr × Obj} (I : Inv (X.suite a (q :: (X.pn ++ pins))) [] σ H s) (ok : X.Ok) : Inv X (q :: pins) σ H s :=
  ⟨ok, I.os, I.bare, I.base, I.loc, I.cell, I.free, I.freeC, fun p hp => I.pin p (by
    rw [List.append_nil]
    show p ∈ q :: (X.pn ++ pins)
    rcases List.mem_append.mp hp with h | h
    · exact List.mem_cons_of_mem _ (List.mem_append_left _ h)
    · rcases List.mem_cons.mp h with h | h
      · rw [h]
        exact List.mem_cons_self
      · exact List.mem_cons_of_mem _ (List.mem_append_right _ h)), I.hok, I.len⟩
end
/-- an exception that has landed in this frame: it is new since the entry, apart from all that is pinned -/
structure Landed (X : Cx) (pins : List (Addr × Obj)) (σ : St) (H : Hp) (a : Addr) (cls : Value) (d : Option Addr) (s : Shared) : Prop where
  inv : Inv X pins σ H s
  new0 : X.s_0.heap.get? a = none
  npin : ∀ p ∈ X.pn ++ pins, p.1 ≠ a
  nL : a ≠ X.env.locals
  nF : a ∉ X.fs
  obj : ∃ oe vs, s.heap.get? a = some oe ∧ Zc cls d oe ∧ oe.data = .fields vs
section
variable {X : Cx} {pins : List (Addr × Obj)} {σ : St} {H : Hp} {sI s' : Shared} {B h : Heap} {a : Addr} {cls : Value} {d : Option Addr}
theorem landed_of (hs : X.stack = X.env :: X.outer) (hf : X.env.frame = some X.env.locals) (hx : X.ex = []) (J : Inv X pins σ H sI) (nb : ∀ b o, sI.heap.get? b = some o → b ∉ frs X.stack → B.get? b = some o)
    (os : s'.os = sI.os) (ag : AllBare s'.gens) (fl : HandSPX.FlyingZ B (X.env :: X.outer) a (Zc cls d) h) (up : sI.heap.UpToSlots h) : Landed X pins σ H a cls d { s' with heap := h } := by
  have ob := fl.there
  obtain ⟨oe, vs, he, _, hd⟩ := id ob
  -- no frame is a record of fields
  have nfr : a ∉ frs (X.env :: X.outer) := fun hm => by
    obtain ⟨_, o, e, k⟩ := fl.2.2.1.mem hm
    cases he.symm.trans e
    exact k _ hd
  have nI : ∀ o, sI.heap.get? a ≠ some o := fun o e => by
    have z := (nb a o e (by rw [hs]; exact nfr)).symm.trans fl.2.1
    cases z
  refine ⟨J.landed (s' := { s' with heap := h }) nb fl.1 up os ag, ?_, fun p hp q => nI p.2 (by rw [← q]; exact (J.pin p hp).1), ?_, ?_, ob⟩
  · cases e : X.s_0.heap.get? a with
    | none => rfl
    | some o =>
      obtain ⟨o', z⟩ := J.base.there a o e (by rw [hx]; exact List.not_mem_nil)
      exact absurd z (nI o')
  · rintro rfl
    exact nfr (List.mem_filterMap.mpr ⟨X.env, .head _, hf⟩)
  · intro hm
    obtain ⟨e, he, q⟩ := List.mem_filterMap.mp hm
    exact nfr (List.mem_filterMap.mpr ⟨e, .tail _ he, q⟩)
theorem Landed.suite (L : Landed X pins σ H a cls d s') (na : H a = none) : ∃ oe vs, Zc cls d oe ∧ oe.data = .fields vs ∧ Inv (X.suite a ((a, oe) :: (X.pn ++ pins))) [] σ H s' := by
  obtain ⟨oe, vs, he, hz, hd⟩ := L.obj
  exact ⟨oe, vs, hz, hd, L.inv.suite he hd na L.nL L.nF⟩
end
/-- what the clause wishes: the exception is one of its class; slot i is its name in the suite, slot j the name that keeps it -/
def wKeep (K : PySem.W.Frag) (c : Value) (i j : Nat) (D : Ends) : WX := fun cls d σ H =>
  PySem.W.exmOne K cls c = some true ∧ ∀ a, H a = none → D.nx (((σ.set i (some (.ref a))).set j (some (.ref a))).set i none) (upd H a (ExK cls d a))
section
variable {X : Cx} {x n : Str} {c : Value} {i j : Nat} {body suite : List Stmt} {b₀ : Stmt} {np pos pos' : Pos} {tb : WX → TS}
theorem ps_try_keep (hs : X.stack = X.env :: X.outer) (hf : X.env.frame = some X.env.locals) (hx : X.ex = []) (hN : X.N.Nodup) (hi : X.N[i]? = some n) (hln : X.env.kindOf n = some .local) (hc : Names X x c)
    (hb : ∀ (W : WX) (pn : List (Addr × Obj)) (xe : Value → Shared → Prop), Takes (X.tr pn xe) W → PSs (X.tr pn xe) body (tb W))
    (hsu : ∀ (a : Addr) (oe : Obj) (pn : List (Addr × Obj)), PSs (X.suite a ((a, oe) :: pn)) (b₀ :: suite) (tAsg (tVar i) (gName j))) :
    PS X (.Try body [.ExceptHandler (some (.Name x np)) (some n) (b₀ :: suite) pos'] [] [] pos) (fun D σ H => tb (wKeep X.K c i j D) D σ H) :=
  ⟨fun pins s σ H D I h => wpAny_Try_except (by
    refine wpAny_mono ((hb (wKeep X.K c i j D) (X.pn ++ pins) _ ?takes).run [] s σ H D (I.toTry _) h) (fun f s1 hsp => ?_) (fun _ _ z => z)
    case takes =>
      rintro _ s' ⟨a, B, sI, pins', σ', H', cls, d, rfl, J', nb, up, sky, na, os, ag, hm, hyes⟩
      have J : Inv X pins σ' H' sI := J'.ofTry I.ok
      refine Sky.land Zc.steady (I.ok.frames.trans (congrArg some hs)) hf (by rw [← hs]; exact sky) fun h3 fl3 up3 => ?_
      have L3 := landed_of (s' := s') hs hf hx J nb os ag fl3 (up.trans up3)
      obtain ⟨oe3, vs3, _, _, S3⟩ := L3.suite na
      have look : PySem.W.Looks (model X.prog X.w) h3 (typeOf (.ref a)) cls := fun A Q E s k q => by
        obtain ⟨oe, _, he, hz, _⟩ := L3.obj
        exact wpAny_typeOf_ref (k _ _ he) (by rw [hz.1]; exact q)
      refine wpAny_handleBy_cons (codeAny_handlers_test ?_) nofun
      refine (show ∀ {Q : Value → Shared → Prop} {E : Value → Shared → Prop}, Q c { s' with heap := h3 } → wpAny (model X.prog X.w) (X.A.mark (some (.ref a))) (eval (.Name x np) X.env) Q E { s' with heap := h3 } from fun q => ?name) ((PySem.W.exm_one L3.inv.kIn look hm).here ?_)
      case name =>
        rcases hc with ⟨hg, hd, k | ⟨k1, k2, k3⟩⟩
        · exact ld_glob S3 hg k q hd
        · exact ld_blt S3 hg k1 k2 q k3 hd
      refine codeAny_handlers_suite_as (HandSPX.lands_againZ fl3 fun h4 fl4 up4 => ?_)
      have L4 := landed_of (s' := s') hs hf hx J nb os ag fl4 ((up.trans up3).trans up4)
      obtain ⟨oe4, vs4, hz4, hd4, S4⟩ := L4.suite na
      refine store_ok (X := X.suite a ((a, oe4) :: (X.pn ++ pins))) (v := .ref a) S4 hN hi (.inl hln) rfl (fun s5 S5 => ?_) (.inr hln)
      have hlt : i < σ'.length := J.len ▸ (List.getElem?_eq_some_iff.mp hi).1
      refine wpAny_mono ((hsu a oe4 (X.pn ++ pins)).run [] s5 _ H' { nx := fun σ6 H6 => σ6 = (σ'.set i (some (.ref a))).set j (some (.ref a)) ∧ H6 = H', rt := fun _ _ => False, bk := fun _ _ => False, ct := fun _ _ => False } S5 ⟨.ref a, List.getElem?_set_self hlt, rfl, rfl⟩) (fun f s6 z => ?_) (fun _ _ z => z.elim)
      cases f with
      | next =>
        obtain ⟨_, _, S6, rfl, rfl⟩ := z
        exact gone_ok (S6.suitePin I.ok) hN hi hln fun s7 J7 => ⟨_, _, J7.track L4.new0 L4.npin hz4 hd4, hyes a na⟩
      | ret u => exact (let ⟨_, _, _, _, _, q⟩ := z; q.elim)
      | brk => exact (let ⟨_, _, _, q⟩ := z; q.elim)
      | cont => exact (let ⟨_, _, _, q⟩ := z; q.elim)
    cases f with
    | next => exact (let ⟨_, _, J, q⟩ := hsp; wpAny_execs_nil ⟨_, _, J.ofTry I.ok, q⟩)
    | ret u => exact (let ⟨_, _, _, J, r, q⟩ := hsp; ⟨_, _, _, J.ofTry I.ok, r, q⟩)
    | brk => exact (let ⟨_, _, J, q⟩ := hsp; ⟨_, _, J.ofTry I.ok, q⟩)
    | cont => exact (let ⟨_, _, J, q⟩ := hsp; ⟨_, _, J.ofTry I.ok, q⟩))⟩
end
end L2

set_option Elab.async false
set_option linter.all false
set_option maxRecDepth 100000
set_option maxHeartbeats 4000000
/-! The class Words: an object that goes through the words of a text. -/
namespace Wd
open PySem PySem.NumText PySem.Spec PyProof.Rows L2 EvP Cm Fk
open Dg hiding numT
def wmeth (j : Nat) : Stmt := match top 27 with
  | .ClassDef _ _ _ body _ _ _ _ _ _ _ => body.getD j (.Pass ⟨0, 0, 0, 0⟩)
  | _ => .Pass ⟨0, 0, 0, 0⟩
/-- the class -/
structure WdC (K : PySem.W.Frag) (C : Addr) : Prop where
  cl : Cls K C
  nW : NoAttr K C "words"
  nA : NoAttr K C "at"
/-- the object: its words at l, its place -/
abbrev WdO (C dx l : Addr) (i : Nat) : HO := .ins C dx [(("words" : Str), .ref l), (("at" : Str), .int (i : Nat))]
structure WdAt (C : Addr) (H : Hp) (a dx l : Addr) (w : List Str) (i : Nat) : Prop where
  at_ : H a = some (WdO C dx l i)
  ls : H l = some (.lst (w.map V.str))
  le : i ≤ w.length
  few : w.length ≤ 10000
  fine : ∀ x ∈ w, x.length ≤ 10000
theorem WdAt.ne {C : Addr} {H : Hp} {a dx l : Addr} {w : List Str} {i : Nat} (h : WdAt C H a dx l w i) : l ≠ a := ne_of h.ls h.at_ (fun z => nomatch z)
theorem WdAt.ex {C : Addr} {H H' : Hp} {a dx l : Addr} {w : List Str} {i : Nat} (h : WdAt C H a dx l w i) (e : Ex H H') : WdAt C H' a dx l w i := ⟨e _ _ h.at_, e _ _ h.ls, h.le, h.few, h.fine⟩
theorem WdAt.go {C : Addr} {H : Hp} {a dx l : Addr} {w : List Str} {i : Nat} (h : WdAt C H a dx l w i) {j : Nat} (hj : j ≤ w.length) : WdAt C (upd H a (WdO C dx l j)) a dx l w j := ⟨upd_same, by rw [upd_ne h.ne]; exact h.ls, hj, h.few, h.fine⟩
/-- all but x stays -/
abbrev ButX (x : Addr) (H H' : Hp) : Prop := ∀ b o, H b = some o → b ≠ x → H' b = some o
/-- what a BadText keeps -/
abbrev badF (k : Nat) : List (Str × V) := [(("word" : Str), V.int (k : Nat)), (("line" : Str), V.int 0)]
/-- the error's class, as the top has written it -/
structure BadC (P : Program) (w : World) (K : PySem.W.Frag) (mg : Str → Option Value) (base : Heap) (CB fI : Addr) (fdI : FuncData) : Prop where
  T : OexC K CB
  iC : PySem.W.findIn K (.ref CB) "__init__" = some (some (.ref fI))
  tI : PySem.W.typeIn K (.ref fI) = some (.type "function")
  n1 : PySem.W.findIn K (.ref CB) "line" = some none
  n2 : PySem.W.findIn K (.ref CB) "word" = some none
  G : FnOk P w K mg base CX0 1 fI fdI ["self", "line", "word"] (spInit2 K "line" "word")
  b : Binds K fdI ["self", "line", "word"] []
  g : mg "BadText" = some (.ref CB)
section
variable {P : Program} {w : World} {K : PySem.W.Frag} {mg : Str → Option Value} {base : Heap} {C CB f fI f1 f2 f3 : Addr} {fd fdI fd1 fd2 fd3 : FuncData}
/-- raise BadText(0, k): the way out -/
theorem raise_bad {σ : L2.St} {H : Hp} {k : Nat} {E : XK} {te : TE} (L : BadC P w K mg base CB fI fdI) (h : EvP.Gives te σ H (is (.int (k : Nat)))) (kk : ∀ d H', Ex H H' → H' d = some (.xd (badF k)) → E (.ref CB) (some d) H') :
    tMkO CB (spInit2 K "line" "word") [] (tCons (tC (.int 0)) (tCons te tNil)) σ H (fun cls d H' => E cls d H') := by
  refine h H (Ex.refl H) _ fun v H1 e1 ev => ?_
  cases (show v = .int (k : Nat) from ev)
  refine ⟨(by show 2 ≤ 1000; decide), fun a ha => ?_⟩
  refine ⟨a, CB, .int 0, .int (k : Nat), rfl, L.T, L.n1, L.n2, upd_same, fun d hd ne => ?_⟩
  have hd' : H1 d = none := by rw [upd_ne ne] at hd; exact hd
  refine ⟨rfl, d, badF k, by rw [upd_ne ne.symm, upd_same], upd_same, hd', ?_⟩
  refine kk d _ (fun b o z => ?_) upd_same
  have z1 := e1 _ _ z
  rw [upd_ne (ne_of_none z1 hd'), del_ne (ne_of_none z1 ha), upd_ne (ne_of_none z1 hd'), upd_ne (ne_of_none z1 ha), upd_ne (ne_of_none z1 hd'), upd_ne (ne_of_none z1 ha)]
  exact z1
theorem g_at {σ : L2.St} {H : Hp} {a dx l : Addr} {i j : Nat} {ww : List Str} (S : WdC K C) (hi : σ[j]? = some (some (.ref a))) (h : WdAt C H a dx l ww i) : EvP.Gives (tFld K (tVar j) "at") σ H (is (.int (i : Nat))) := fun H1 e Q q =>
  ⟨_, hi, a, C, dx, _, _, rfl, e _ _ h.at_, S.cl, S.nA, rfl, q _ _ (Ex.refl _) rfl⟩
/-! at_end, word_now, take_dash -/
def spAtEnd (C : Addr) : Sp := fun vs H Q _ => ∃ (a dx l : Addr) (ww : List Str) (i : Nat), vs = [.ref a] ∧ WdAt C H a dx l ww i ∧ Q (.bl (decide (i = ww.length))) H
/-- the next word -/
def nowV (ww : List Str) (i : Nat) : V := match ww[i]? with
  | some x => .str x
  | none => .non
def spNow (C : Addr) : Sp := fun vs H Q _ => ∃ (a dx l : Addr) (ww : List Str) (i : Nat), vs = [.ref a] ∧ WdAt C H a dx l ww i ∧ Q (nowV ww i) H
def spDash (C : Addr) : Sp := fun vs H Q _ => ∃ (a dx l : Addr) (ww : List Str) (i : Nat), vs = [.ref a] ∧ WdAt C H a dx l ww i ∧ (ww[i]? = some ("-" : Str) → Q (.bl true) (upd H a (WdO C dx l (i + 1)))) ∧ (ww[i]? ≠ some ("-" : Str) → Q (.bl false) H)
theorem scAtEnd : FnScope ["self"] ["self"] (defScope (wmeth 1)) := ⟨rfl, rfl, rfl, by decide +kernel, rfl, by decide +kernel, by decide +kernel⟩
theorem scNow : FnScope ["self"] ["self"] (defScope (wmeth 2)) := ⟨rfl, rfl, rfl, by decide +kernel, rfl, by decide +kernel, by decide +kernel⟩
theorem ok_atEnd (F : Fun K "at_end" "Words.at_end" (wmeth 1) f fd) (S : WdC K C) (T : Fk.Blt mg) : FnOk P w K mg base CX0 1 f fd ["self"] (spAtEnd C) := by
  refine F.ok scAtEnd (fun vs H Q E h => ?_) (fun cdv A outer s H vs Q E hr h => ?_)
  · obtain ⟨a, dx, l, ww, i, rfl, _⟩ := h
    rfl
  · obtain ⟨a, dx, l, ww, i, rfl, h, q⟩ := h
    refine ⟨_, pss_one (ps_ret (pe_cmpR op_eq (pe_fld (pv 0) rfl) (pe_callB call_len_seq (by rfl) T.len PySem.boot_len (pa_cons (pe_fld (pv 0) rfl) pa_nil)) (nomark _))), ?_⟩
    refine ⟨_, rfl, a, C, dx, _, _, rfl, h.at_, S.cl, S.nA, rfl, _, rfl, a, C, dx, _, _, rfl, h.at_, S.cl, S.nW, rfl, l, _, rfl, .inl (SqL.of h.ls), rfl, ?_⟩
    have : decide (V.int (i : Nat) = V.int ((ww.map V.str).length : Nat)) = decide (i = ww.length) := by
      rw [List.length_map]
      by_cases c : i = ww.length
      · rw [decide_eq_true c, decide_eq_true (by rw [c])]
      · rw [decide_eq_false c, decide_eq_false (fun z => c (by have := V.int.inj z; omega))]
    rw [this]
    exact q
theorem ok_now (F : Fun K "word_now" "Words.word_now" (wmeth 2) f fd) (S : WdC K C) (m1 : Meth K C "at_end" f1) (G : FnOk P w K mg base CX0 1 f1 fd1 ["self"] (spAtEnd C)) (b : Binds K fd1 ["self"] []) : FnOk P w K mg base CX0 2 f fd ["self"] (spNow C) := by
  refine F.ok scNow (fun vs H Q E h => ?_) (fun cdv A outer s H vs Q E hr h => ?_)
  · obtain ⟨a, dx, l, ww, i, rfl, _⟩ := h
    rfl
  · obtain ⟨a, dx, l, ww, i, rfl, h, q⟩ := h
    refine ⟨_, pss_cons (ps_if (pt_val (pe_meth0 (pv 0) S.cl m1 G hr b .nil pass0)) (pss_one (ps_ret pe_non)) pss_nil)
      (pss_one (ps_ret (pe_ix ix_list (pe_fld (pv 0) rfl) (pe_fld (pv 0) rfl) (fun _ _ => rfl)))), ?_⟩
    refine ⟨_, rfl, a, dx, _, rfl, h.at_, rfl, a, dx, l, ww, i, rfl, h, _, rfl, ?_⟩
    by_cases c : i = ww.length
    · rw [decide_eq_true c]
      have e : nowV ww i = .non := by
        unfold nowV
        rw [c, List.getElem?_eq_none (Nat.le_refl _)]
      rw [e] at q
      exact q
    · rw [decide_eq_false c]
      have hi : i < ww.length := by
        have := h.le
        omega
      have e : nowV ww i = .str ww[i] := by
        unfold nowV
        rw [List.getElem?_eq_getElem hi]
      rw [e] at q
      refine ⟨_, rfl, a, C, dx, _, _, rfl, h.at_, S.cl, S.nW, rfl, _, rfl, a, C, dx, _, _, rfl, h.at_, S.cl, S.nA, rfl, l, _, _, _, rfl, rfl, SqL.of h.ls, at_of (j := i) rfl (by rw [List.getElem?_map, List.getElem?_eq_getElem hi]; rfl), q⟩
end
end Wd

set_option Elab.async false
set_option linter.all false
set_option maxRecDepth 100000
set_option maxHeartbeats 4000000
/-! The class Words: what may raise. -/
namespace Wd
open PySem PySem.NumText PySem.Spec PyProof.Rows L2 EvP Cm Fk
open Dg hiding numT
/-- the next word, a name behind prev -/
def nowN (prev : Str) (ww : List Str) (i : Nat) : Option Str := match ww[i]? with
  | some x => if okN prev x = true then some x else none
  | none => none
/-- the next word, a number from m on -/
def nowA (m : Nat) (ww : List Str) (i : Nat) : Option Nat := match ww[i]? with
  | some x => if (numB x && decide (m ≤ valT x)) = true then some (valT x) else none
  | none => none
def spTName (C CB : Addr) : Sp := fun vs H Q E => ∃ (a dx l : Addr) (ww : List Str) (i : Nat) (prev : Str), vs = [.ref a, .str "", .str prev] ∧ WdAt C H a dx l ww i ∧
  (∀ x, nowN prev ww i = some x → Q (.str x) (upd H a (WdO C dx l (i + 1)))) ∧ (nowN prev ww i = none → ∀ d H', Ex H H' → H' d = some (.xd (badF i)) → E (.ref CB) (some d) H')
def spTNum (C CB : Addr) : Sp := fun vs H Q E => ∃ (a dx l : Addr) (ww : List Str) (i m : Nat), vs = [.ref a, .int (m : Nat)] ∧ WdAt C H a dx l ww i ∧
  (∀ n, nowA m ww i = some n → Q (.int (n : Nat)) (upd H a (WdO C dx l (i + 1)))) ∧ (nowA m ww i = none → ∀ d H', Ex H H' → H' d = some (.xd (badF i)) → E (.ref CB) (some d) H')
def spTEnd (C CB : Addr) : Sp := fun vs H Q E => ∃ (a dx l : Addr) (ww : List Str) (i : Nat), vs = [.ref a] ∧ WdAt C H a dx l ww i ∧
  (i = ww.length → Q .non H) ∧ (i ≠ ww.length → ∀ d H', Ex H H' → H' d = some (.xd (badF i)) → E (.ref CB) (some d) H')
theorem scTName : FnScope ["self", "least", "behind", "word"] ["self", "least", "behind"] (defScope (wmeth 5)) := ⟨rfl, rfl, rfl, by decide +kernel, rfl, by decide +kernel, by decide +kernel⟩
theorem scTNum : FnScope ["self", "least", "word"] ["self", "least"] (defScope (wmeth 7)) := ⟨rfl, rfl, rfl, by decide +kernel, rfl, by decide +kernel, by decide +kernel⟩
theorem scTEnd : FnScope ["self"] ["self"] (defScope (wmeth 9)) := ⟨rfl, rfl, rfl, by decide +kernel, rfl, by decide +kernel, by decide +kernel⟩
theorem nowN_at {prev x : Str} {ww : List Str} {i : Nat} (h : ww[i]? = some x) {b c : Bool} (hb : nameB x = b) (hc : decide (tl prev < tl x) = c) : nowN prev ww i = if (b && c) = true then some x else none := by
  unfold nowN okN
  rw [h, ← hb, ← hc]
theorem nowA_at {m : Nat} {x : Str} {ww : List Str} {i : Nat} (h : ww[i]? = some x) {b c : Bool} (hb : numB x = b) (hc : decide (m ≤ valT x) = c) : nowA m ww i = if (b && c) = true then some (valT x) else none := by
  unfold nowA
  rw [h, ← hb, ← hc]
theorem now_some {ww : List Str} {i : Nat} {x : Str} (h : ww[i]? = some x) : nowV ww i = .str x := by
  unfold nowV
  rw [h]
theorem now_none {ww : List Str} {i : Nat} (h : ww[i]? = none) : nowV ww i = .non := by
  unfold nowV
  rw [h]
theorem lt_up {ww : List Str} {i : Nat} {x : Str} (h : ww[i]? = some x) : i + 1 ≤ ww.length := (List.getElem?_eq_some_iff.mp h).1
section
variable {P : Program} {w : World} {K : PySem.W.Frag} {mg : Str → Option Value} {base : Heap} {C CB f fI f1 f2 f3 f4 : Addr} {fd fdI fd1 fd2 fd3 fd4 : FuncData} {dvs : List V}
theorem ok_tend (F : Fun K "take_end" "Words.take_end" (wmeth 9) f fd) (S : WdC K C) (L : BadC P w K mg base CB fI fdI) (m1 : Meth K C "at_end" f1) (G : FnOk P w K mg base CX0 1 f1 fd1 ["self"] (spAtEnd C)) (b : Binds K fd1 ["self"] []) : FnOk P w K mg base (L2.CX P w) 3 f fd ["self"] (spTEnd C CB) := by
  refine F.okX scTEnd (fun vs H Q E h => ?_) (fun cdv A outer s H vs Q E hr h => ?_)
  · obtain ⟨a, dx, l, ww, i, rfl, _⟩ := h
    rfl
  · obtain ⟨a, dx, l, ww, i, rfl, h, q1, q2⟩ := h
    refine ⟨_, pss_one (ps_if (pt_not (pt_val (pe_meth0 (pv 0) S.cl m1 G (hr.mono (by decide)) b .nil pass0)))
      (pss_one (ps_raise (W := fun cls d _ H => E cls d H) rfl (takes_of rfl rfl rfl rfl) (pmk_oex (CX := CX0) L.T L.iC L.tI L.G (hr.mono (by decide)) L.b .nil pass0 (by rfl) L.g (pa_cons pe_int (pa_cons (pe_fld (pv 0) rfl) pa_nil))))) pss_nil), ?_⟩
    refine ⟨_, rfl, a, dx, _, rfl, h.at_, rfl, a, dx, l, ww, i, rfl, h, _, rfl, ?_⟩
    by_cases c : i = ww.length
    · rw [decide_eq_true c]
      exact q1 c
    · rw [decide_eq_false c]
      exact raise_bad L (g_at S rfl h) (q2 c)
theorem ok_tname (F : FunD K "take_name" "Words.take_name" (defArgs (wmeth 5)) (defBody (wmeth 5)) (defScope (wmeth 5)) [.str "", .str ""] [] f fd) (S : WdC K C) (L : BadC P w K mg base CB fI fdI) (m2 : Meth K C "word_now" f2) (G : FnOk P w K mg base CX0 2 f2 fd2 ["self"] (spNow C)) (b : Binds K fd2 ["self"] [])
    (GN : FnOk P w K mg base CX0 1 f3 fd3 ["value"] (spName K)) (bN : Binds K fd3 ["value"] []) (gN : mg "is_name" = some (.ref f3)) (kN : PySem.W.keepIn K (.ref f3) = true) : FnOk P w K mg base (L2.CX P w) 4 f fd ["self", "least", "behind"] (spTName C CB) := by
  have nd := scTName.nd
  refine FunD.ok (CX := L2.CX P w) F scTName (fun vs H Q E h => ?_) (fun cdv A outer s H vs Q E hr h => ?_)
  · obtain ⟨a, dx, l, ww, i, prev, rfl, _⟩ := h
    rfl
  · obtain ⟨a, dx, l, ww, i, prev, rfl, h, q1, q2⟩ := h
    refine ⟨_, pss_cons (ps_set (i := 3) nd rfl (Or.inl rfl) (pe_meth0 (pv 0) S.cl m2 G (hr.mono (by decide)) b .nil pass0))
      (pss_cons (ps_if (PW.pt (pw_or (pt_not (pt_val (pe_call GN (hr.mono (by decide)) (by rfl) gN kN bN .nil pass0 (pa_cons (pv 3) pa_nil)))) (pw_or (pt_cmpR op_lt_str (pv 3) (pv 1) (nomark _)) (pw_or1 (pt_cmpR op_le_str (pv 3) (pv 2) (nomark _))))))
        (pss_one (ps_raise (W := fun cls d _ H => E cls d H) rfl (takes_of rfl rfl rfl rfl) (pmk_oex (CX := CX0) L.T L.iC L.tI L.G (hr.mono (by decide)) L.b .nil pass0 (by rfl) L.g (pa_cons pe_int (pa_cons (pe_fld (pv 0) rfl) pa_nil))))) pss_nil)
      (pss_cons (ps_fldaug (pv 0) pe_int in_add) (pss_one (ps_ret (pv 3))))), ?_⟩
    refine ⟨_, rfl, a, dx, _, rfl, h.at_, rfl, a, dx, l, ww, i, rfl, h, ?_⟩
    cases e : ww[i]? with
    | none =>
      rw [now_none e]
      refine ⟨_, rfl, _, rfl, .inr ⟨_, .base .non, by decide +kernel, _, rfl, ?_⟩⟩
      exact raise_bad L (g_at S rfl h) (q2 (by unfold nowN; rw [e]))
    | some x =>
      rw [now_some e]
      have fx := h.fine x (List.mem_of_getElem? e)
      refine ⟨_, rfl, _, rfl, .inl ⟨x, rfl, by rw [sizeLine_eq]; omega, _, rfl, ?_⟩⟩
      cases hn : nameB x with
      | false => exact raise_bad L (g_at S rfl h) (q2 (nowN_at e hn rfl))
      | true =>
        refine ⟨_, rfl, _, rfl, _, _, rfl, rfl, _, rfl, ?_⟩
        have n0 : decide (x.cps.toList < (Str.ofString "").cps.toList) = false := by
          refine decide_eq_false ?_
          show ¬ x.cps.toList < []
          exact List.not_lt_nil _
        rw [n0]
        refine ⟨_, rfl, _, rfl, _, _, rfl, rfl, _, rfl, ?_⟩
        cases hp : decide (prev.cps.toList < x.cps.toList) with
        | false => exact raise_bad L (g_at S rfl h) (q2 (nowN_at e hn hp))
        | true =>
          exact ⟨_, rfl, a, C, dx, _, _, rfl, h.at_, S.cl, S.nA, rfl, _, _, rfl, rfl, dx, _, h.at_, by show 2 < 1000; decide, _, rfl, q1 x (nowN_at e hn hp)⟩
theorem ok_tnum (F : Fun K "take_number" "Words.take_number" (wmeth 7) f fd) (S : WdC K C) (L : BadC P w K mg base CB fI fdI) (m2 : Meth K C "word_now" f2) (G : FnOk P w K mg base CX0 2 f2 fd2 ["self"] (spNow C)) (b : Binds K fd2 ["self"] [])
    (GI : FnOk P w K mg base CX0 1 f3 fd3 ["word"] spIsNum) (bI : Binds K fd3 ["word"] []) (gI : mg "is_number_text" = some (.ref f3)) (kI : PySem.W.keepIn K (.ref f3) = true)
    (GN : FnOk P w K mg base CX0 1 f4 fd4 ["word"] spNumOf) (bN : Binds K fd4 ["word"] []) (gN : mg "number_of" = some (.ref f4)) (kN : PySem.W.keepIn K (.ref f4) = true) : FnOk P w K mg base (L2.CX P w) 4 f fd ["self", "least"] (spTNum C CB) := by
  have nd := scTNum.nd
  refine F.okX scTNum (fun vs H Q E h => ?_) (fun cdv A outer s H vs Q E hr h => ?_)
  · obtain ⟨a, dx, l, ww, i, m, rfl, _⟩ := h
    rfl
  · obtain ⟨a, dx, l, ww, i, m, rfl, h, q1, q2⟩ := h
    refine ⟨_, pss_cons (ps_set (i := 2) nd rfl (Or.inl rfl) (pe_meth0 (pv 0) S.cl m2 G (hr.mono (by decide)) b .nil pass0))
      (pss_cons (ps_if (PW.pt (pw_or (pt_cmpR op_isN (pv 2) pe_non (nomark _)) (pw_or (pt_not (pt_val (pe_call GI (hr.mono (by decide)) (by rfl) gI kI bI .nil pass0 (pa_cons (pv 2) pa_nil)))) (pw_or1 (pt_cmpR op_lt (pe_call GN (hr.mono (by decide)) (by rfl) gN kN bN .nil pass0 (pa_cons (pv 2) pa_nil)) (pv 1) (nomark _))))))
        (pss_one (ps_raise (W := fun cls d _ H => E cls d H) rfl (takes_of rfl rfl rfl rfl) (pmk_oex (CX := CX0) L.T L.iC L.tI L.G (hr.mono (by decide)) L.b .nil pass0 (by rfl) L.g (pa_cons pe_int (pa_cons (pe_fld (pv 0) rfl) pa_nil))))) pss_nil)
      (pss_cons (ps_fldaug (pv 0) pe_int in_add) (pss_one (ps_ret (pe_call GN (hr.mono (by decide)) (by rfl) gN kN bN .nil pass0 (pa_cons (pv 2) pa_nil)))))), ?_⟩
    refine ⟨_, rfl, a, dx, _, rfl, h.at_, rfl, a, dx, l, ww, i, rfl, h, ?_⟩
    cases e : ww[i]? with
    | none =>
      rw [now_none e]
      refine ⟨_, rfl, rfl, _, rfl, ?_⟩
      exact raise_bad L (g_at S rfl h) (q2 (by unfold nowA; rw [e]))
    | some x =>
      rw [now_some e]
      have fx := h.fine x (List.mem_of_getElem? e)
      refine ⟨_, rfl, rfl, _, rfl, ?_⟩
      refine ⟨_, rfl, x, rfl, fx, _, rfl, ?_⟩
      cases hb : numB x with
      | false => exact raise_bad L (g_at S rfl h) (q2 (nowA_at e hb rfl))
      | true =>
        have dg : AllDigits (tl x) := (digit_chars (x := x) (by unfold numB at hb; rw [Bool.and_eq_true] at hb; exact hb.1)).1
        refine ⟨_, rfl, x, rfl, dg, fx, _, rfl, _, _, rfl, rfl, _, rfl, ?_⟩
        have dv : decide (((valT x : Nat) : Int) < ((m : Nat) : Int)) = !decide (m ≤ valT x) := by
          by_cases c : m ≤ valT x
          · rw [decide_eq_true c, decide_eq_false (by omega)]
            rfl
          · rw [decide_eq_false c, decide_eq_true (by omega)]
            rfl
        rw [dv]
        cases hm : decide (m ≤ valT x) with
        | false => exact raise_bad L (g_at S rfl h) (q2 (nowA_at e hb hm))
        | true =>
          exact ⟨_, rfl, a, C, dx, _, _, rfl, h.at_, S.cl, S.nA, rfl, _, _, rfl, rfl, dx, _, h.at_, by show 2 < 1000; decide, _, rfl, x, rfl, dg, fx, q1 _ (nowA_at e hb hm)⟩
end
end Wd

set_option Elab.async false
set_option linter.all false
set_option maxRecDepth 100000
set_option maxHeartbeats 4000000
set_option autoImplicit false
/-! A table's text, as words: no Python here. -/
namespace Wd
open PySem PySem.NumText Fk
open Dg hiding numT
/-! joined words -/
theorem join_app : ∀ {A B : List Str}, A ≠ [] → B ≠ [] → Txt.join sp (A ++ B) = Txt.join sp A ++ sp ++ Txt.join sp B
  | [], _, h, _ => absurd rfl h
  | [a], [], _, h => absurd rfl h
  | [a], b :: r, _, _ => by
    rw [TL.join_eq, TL.join_eq, TL.join_eq]
    rfl
  | a :: b :: r, B, _, hB => by
    have ih := join_app (A := b :: r) (B := B) (by simp) hB
    rw [TL.join_eq, TL.join_eq, TL.join_eq] at ih ⊢
    show a ++ sp ++ Str.join sp (b :: r ++ B) = a ++ sp ++ Str.join sp (b :: r) ++ sp ++ Str.join sp B
    rw [ih]
    refine Dg.ext ?_
    simp only [app_cps, List.append_assoc]
theorem join_one (x : Str) : Txt.join sp [x] = x := by
  rw [TL.join_eq]
  rfl
/-- a joined text among words -/
theorem join_nest {A B C : List Str} (hB : B ≠ []) : Txt.join sp (A ++ Txt.join sp B :: C) = Txt.join sp (A ++ B ++ C) := by
  have h1 : Txt.join sp (Txt.join sp B :: C) = Txt.join sp (B ++ C) := by
    by_cases hC : C = []
    · subst hC
      rw [List.append_nil, join_one]
    · rw [join_app hB hC, show Txt.join sp B :: C = [Txt.join sp B] ++ C from rfl, join_app (by simp) hC, join_one]
  by_cases hA : A = []
  · subst hA
    exact h1
  · rw [List.append_assoc, join_app hA (by simp), join_app hA (by simp [hB]), h1]
/-! the words of a table's text -/
abbrev Rws := List (Str × List Int)
/-- the rows, as words; first: no row is ahead -/
def rw (first : Bool) : Rws → List Str
  | [] => []
  | t :: r => (if first = true then [] else [(";" : Str)]) ++ (t.1 :: t.2.map numT) ++ rw false r
/-- the names up to the colon: the first word that cannot stand, or the names and what is behind -/
def usesEnd (prev : Str) (i : Nat) : List Str → Sum Nat (List Str × List Str)
  | [] => .inl i
  | w :: r => if w = ":" then .inr ([], r) else if okN prev w = true then (match usesEnd w (i + 1) r with
    | .inl k => .inl k
    | .inr (us, s) => .inr (w :: us, s)) else .inl i
/-- n numbers -/
def numsEnd : Nat → Nat → List Str → Sum Nat (List Int × List Str)
  | 0, _, l => .inr ([], l)
  | n + 1, i, [] => .inl i
  | n + 1, i, w :: r => if numB w = true then (match numsEnd n (i + 1) r with
    | .inl k => .inl k
    | .inr (vs, s) => .inr (((valT w : Nat) : Int) :: vs, s)) else .inl i
theorem nums_facts : ∀ {n i : Nat} {l : List Str} {vs : List Int} {s : List Str}, numsEnd n i l = .inr (vs, s) → vs.length = n ∧ l.length = n + s.length
  | 0, i, l, vs, s, h => by
    cases h
    exact ⟨rfl, (Nat.zero_add _).symm⟩
  | n + 1, i, [], vs, s, h => nomatch h
  | n + 1, i, w :: r, vs, s, h => by
    unfold numsEnd at h
    by_cases c : numB w = true
    · rw [if_pos c] at h
      cases hr : numsEnd n (i + 1) r with
      | inl k =>
        rw [hr] at h
        cases h
      | inr p =>
        obtain ⟨vs', s'⟩ := p
        rw [hr] at h
        cases h
        obtain ⟨a, b⟩ := nums_facts hr
        exact ⟨by rw [List.length_cons, a], by rw [List.length_cons, b]; omega⟩
    · rw [if_neg c] at h
      cases h
/-- the rows to the end -/
def rowsEnd (n : Nat) (fuel : Nat) (first : Bool) (prev : Str) (i : Nat) (l : List Str) : Sum Nat Rws :=
  match fuel with
  | 0 => .inr []
  | fuel + 1 =>
    if l = [] then .inr [] else
    if first = true ∨ l.head? = some (";" : Str) then
      match (if first = true then l else l.drop 1) with
      | [] => .inl (if first = true then i else i + 1)
      | s :: r => if okN prev s = true then
          (match numsEnd n ((if first = true then i else i + 1) + 1) r with
          | .inl k => .inl k
          | .inr (vs, q) => match rowsEnd n fuel false s ((if first = true then i else i + 1) + 1 + n) q with
            | .inl k => .inl k
            | .inr rs => .inr ((s, vs) :: rs)) else .inl (if first = true then i else i + 1)
    else .inl i
/-- more steps than words -/
theorem rows_fuel : ∀ {n f g : Nat} {first : Bool} {prev : Str} {i : Nat} {l : List Str}, l.length < f → l.length < g → rowsEnd n f first prev i l = rowsEnd n g first prev i l
  | n, 0, g, first, prev, i, l, h, _ => absurd h (Nat.not_lt_zero _)
  | n, f + 1, 0, first, prev, i, l, _, h => absurd h (Nat.not_lt_zero _)
  | n, f + 1, g + 1, first, prev, i, l, hf, hg => by
    unfold rowsEnd
    by_cases e : l = []
    · rw [if_pos e, if_pos e]
    · rw [if_neg e, if_neg e]
      by_cases c : first = true ∨ l.head? = some (";" : Str)
      · rw [if_pos c, if_pos c]
        cases hl : (if first = true then l else l.drop 1) with
        | nil => rfl
        | cons s r =>
          dsimp only
          by_cases o : okN prev s = true
          · rw [if_pos o, if_pos o]
            cases hr : numsEnd n ((if first = true then i else i + 1) + 1) r with
            | inl k => rfl
            | inr p =>
              obtain ⟨vs, q⟩ := p
              dsimp only
              have lq := (nums_facts hr).2
              have ls : r.length < l.length := by
                have : (s :: r).length ≤ l.length := by
                  rw [← hl]
                  split
                  · exact Nat.le_refl _
                  · rw [List.length_drop]
                    omega
                rw [List.length_cons] at this
                omega
              rw [rows_fuel (f := f) (g := g) (by omega) (by omega)]
          · rw [if_neg o, if_neg o]
      · rw [if_neg c, if_neg c]
/-- one row more -/
theorem rows_step {n f : Nat} {first : Bool} {prev : Str} {i : Nat} {l : List Str} (hf : l.length < f) : rowsEnd n f first prev i l = (
    if l = [] then .inr [] else
    if first = true ∨ l.head? = some (";" : Str) then
      match (if first = true then l else l.drop 1) with
      | [] => .inl (if first = true then i else i + 1)
      | s :: r => if okN prev s = true then
          (match numsEnd n ((if first = true then i else i + 1) + 1) r with
          | .inl k => .inl k
          | .inr (vs, q) => match rowsEnd n f false s ((if first = true then i else i + 1) + 1 + n) q with
            | .inl k => .inl k
            | .inr rs => .inr ((s, vs) :: rs)) else .inl (if first = true then i else i + 1)
    else .inl i) := by
  cases f with
  | zero => exact absurd hf (Nat.not_lt_zero _)
  | succ f =>
    conv => lhs; unfold rowsEnd
    by_cases e : l = []
    · rw [if_pos e, if_pos e]
    · rw [if_neg e, if_neg e]
      by_cases c : first = true ∨ l.head? = some (";" : Str)
      · rw [if_pos c, if_pos c]
        cases hl : (if first = true then l else l.drop 1) with
        | nil => rfl
        | cons s r =>
          dsimp only
          by_cases o : okN prev s = true
          · rw [if_pos o, if_pos o]
            cases hr : numsEnd n ((if first = true then i else i + 1) + 1) r with
            | inl k => rfl
            | inr p =>
              obtain ⟨vs, q⟩ := p
              dsimp only
              have lq := (nums_facts hr).2
              have ls : r.length < l.length := by
                have : (s :: r).length ≤ l.length := by
                  rw [← hl]
                  split
                  · exact Nat.le_refl _
                  · rw [List.length_drop]
                    omega
                rw [List.length_cons] at this
                omega
              rw [rows_fuel (f := f) (g := f + 1) (by omega) (by omega)]
          · rw [if_neg o, if_neg o]
      · rw [if_neg c, if_neg c]
end Wd

set_option Elab.async false
set_option linter.all false
set_option maxRecDepth 100000
set_option maxHeartbeats 4000000
set_option autoImplicit false
/-! What a table's text tells, and back. -/
namespace Wd
open PySem PySem.NumText Fk
open Dg hiding numT
theorem numB_text {x : Str} (h : numB x = true) : numT (valT x : Nat) = x := by
  unfold numB at h
  rw [Bool.and_eq_true] at h
  obtain ⟨h1, h2⟩ := h
  obtain ⟨d1, d2⟩ := digit_chars h1
  by_cases e : x = "0"
  · subst e
    decide +kernel
  · rw [decide_eq_false e, Bool.false_or, decide_eq_true_eq] at h2
    exact numT_val ⟨d1, d2, h2⟩
theorem text_numB {n : Int} (h : 0 ≤ n) : numB (numT n) = true ∧ (valT (numT n) : Int) = n := by
  refine ⟨?_, valT_num h⟩
  by_cases e : n = 0
  · subst e
    decide +kernel
  · have p : Plain (tl (numT n)) := by
      show Plain (numT n).cps.toList
      rw [numT_cps h]
      exact dl_plain (by omega)
    unfold numB
    rw [chars_digit p.dig p.ne, decide_eq_true p.no, Bool.or_true]
    rfl
/-- names in their order, behind prev -/
def Up (prev : Str) (ns : List Str) : Prop := (∀ n ∈ ns, nameB n = true) ∧ (prev :: ns).Pairwise fun a b => tl a < tl b
theorem Up.nil (prev : Str) : Up prev [] := ⟨(fun n hn => nomatch hn), List.pairwise_singleton _ _⟩
theorem Up.cons {prev x : Str} {ns : List Str} (h : okN prev x = true) (u : Up x ns) : Up prev (x :: ns) := by
  unfold okN at h
  rw [Bool.and_eq_true, decide_eq_true_eq] at h
  refine ⟨fun n hn => ?_, List.pairwise_cons.mpr ⟨fun b hb => ?_, u.2⟩⟩
  · rcases List.mem_cons.mp hn with rfl | hn
    · exact h.1
    · exact u.1 n hn
  · rcases List.mem_cons.mp hb with rfl | hb
    · exact h.2
    · exact List.lt_trans h.2 ((List.pairwise_cons.mp u.2).1 b hb)
theorem Up.head {prev x : Str} {ns : List Str} (u : Up prev (x :: ns)) : okN prev x = true ∧ Up x ns := by
  refine ⟨?_, fun n hn => u.1 n (.tail _ hn), (List.pairwise_cons.mp u.2).2⟩
  unfold okN
  rw [u.1 x (.head _), decide_eq_true ((List.pairwise_cons.mp u.2).1 x (.head _))]
  rfl
theorem Up.nod {prev : Str} {ns : List Str} (u : Up prev ns) : ns.Nodup := (List.pairwise_cons.mp u.2).2.imp fun {a b} h e => by
  rw [e] at h
  exact List.lt_irrefl _ h
theorem colon_name : nameB ":" = false := by decide +kernel
theorem uses_facts : ∀ {l : List Str} {prev : Str} {i : Nat} {us s : List Str}, usesEnd prev i l = .inr (us, s) → l = us ++ (":" : Str) :: s ∧ Up prev us
  | [], prev, i, us, s, h => nomatch h
  | w :: r, prev, i, us, s, h => by
    unfold usesEnd at h
    by_cases c : w = ":"
    · rw [if_pos c] at h
      cases h
      rw [c]
      exact ⟨rfl, Up.nil _⟩
    · rw [if_neg c] at h
      by_cases o : okN prev w = true
      · rw [if_pos o] at h
        cases hr : usesEnd w (i + 1) r with
        | inl k =>
          rw [hr] at h
          cases h
        | inr p =>
          obtain ⟨us', s'⟩ := p
          rw [hr] at h
          cases h
          obtain ⟨a, b⟩ := uses_facts hr
          exact ⟨by rw [a]; rfl, Up.cons o b⟩
      · rw [if_neg o] at h
        cases h
theorem uses_back : ∀ {us : List Str} {prev : Str} {i : Nat} {s : List Str}, Up prev us → usesEnd prev i (us ++ (":" : Str) :: s) = .inr (us, s)
  | [], prev, i, s, _ => by
    show usesEnd prev i ((":" : Str) :: s) = _
    unfold usesEnd
    rw [if_pos rfl]
  | u :: us, prev, i, s, h => by
    obtain ⟨o, h'⟩ := h.head
    have nc : ¬ u = ":" := fun e => by
      have := h.1 u (.head _)
      rw [e, colon_name] at this
      cases this
    show usesEnd prev i (u :: (us ++ (":" : Str) :: s)) = _
    unfold usesEnd
    rw [if_neg nc, if_pos o, uses_back h']
theorem nums_text : ∀ {n i : Nat} {l : List Str} {vs : List Int} {s : List Str}, numsEnd n i l = .inr (vs, s) → l = vs.map numT ++ s ∧ ∀ v ∈ vs, 0 ≤ v
  | 0, i, l, vs, s, h => by
    cases h
    exact ⟨rfl, (fun v hv => nomatch hv)⟩
  | n + 1, i, [], vs, s, h => nomatch h
  | n + 1, i, w :: r, vs, s, h => by
    unfold numsEnd at h
    by_cases c : numB w = true
    · rw [if_pos c] at h
      cases hr : numsEnd n (i + 1) r with
      | inl k =>
        rw [hr] at h
        cases h
      | inr p =>
        obtain ⟨vs', s'⟩ := p
        rw [hr] at h
        cases h
        obtain ⟨a, b⟩ := nums_text hr
        refine ⟨?_, fun v hv => ?_⟩
        · show w :: r = numT (valT w : Nat) :: (vs'.map numT ++ s)
          rw [numB_text c, a]
        · rcases List.mem_cons.mp hv with rfl | hv
          · exact Int.natCast_nonneg _
          · exact b v hv
    · rw [if_neg c] at h
      cases h
theorem nums_back : ∀ {vs : List Int} {i : Nat} {s : List Str}, (∀ v ∈ vs, 0 ≤ v) → numsEnd vs.length i (vs.map numT ++ s) = .inr (vs, s)
  | [], i, s, _ => rfl
  | v :: vs, i, s, h => by
    obtain ⟨a, b⟩ := text_numB (h v (.head _))
    show numsEnd (vs.length + 1) i (numT v :: (vs.map numT ++ s)) = _
    unfold numsEnd
    rw [if_pos a, nums_back fun u hu => h u (.tail _ hu)]
    dsimp only
    rw [b]
/-- rows of just n numbers, their names in order behind prev -/
structure RwOk (n : Nat) (prev : Str) (rs : Rws) : Prop where
  up : Up prev (rs.map (·.1))
  row : ∀ t ∈ rs, t.2.length = n ∧ ∀ v ∈ t.2, 0 ≤ v
theorem rows_facts : ∀ {n f : Nat} {first : Bool} {prev : Str} {i : Nat} {l : List Str} {rs : Rws}, l.length < f → rowsEnd n f first prev i l = .inr rs → l = rw first rs ∧ RwOk n prev rs
  | n, 0, first, prev, i, l, rs, hf, h => absurd hf (Nat.not_lt_zero _)
  | n, f + 1, first, prev, i, l, rs, hf, h => by
    unfold rowsEnd at h
    by_cases e : l = []
    · rw [if_pos e] at h
      cases h
      exact ⟨e, Up.nil _, (fun t ht => nomatch ht)⟩
    · rw [if_neg e] at h
      by_cases c : first = true ∨ l.head? = some (";" : Str)
      · rw [if_pos c] at h
        have pre : l = (if first = true then [] else [(";" : Str)]) ++ (if first = true then l else l.drop 1) := by
          by_cases ff : first = true
          · rw [if_pos ff, if_pos ff]
            rfl
          · rw [if_neg ff, if_neg ff]
            rcases c with c | c
            · exact absurd c ff
            · cases l with
              | nil => exact absurd rfl e
              | cons a l =>
                rw [Option.some.inj c]
                rfl
        cases hl : (if first = true then l else l.drop 1) with
        | nil =>
          rw [hl] at h
          cases h
        | cons s r =>
          rw [hl] at h
          dsimp only at h
          by_cases o : okN prev s = true
          · rw [if_pos o] at h
            cases hr : numsEnd n ((if first = true then i else i + 1) + 1) r with
            | inl k =>
              rw [hr] at h
              cases h
            | inr p =>
              obtain ⟨vs, q⟩ := p
              rw [hr] at h
              dsimp only at h
              have lq := (nums_facts hr).2
              have ls : r.length < l.length := by
                have : (s :: r).length ≤ l.length := by
                  rw [← hl]
                  split
                  · exact Nat.le_refl _
                  · rw [List.length_drop]
                    omega
                rw [List.length_cons] at this
                omega
              cases hq : rowsEnd n f false s ((if first = true then i else i + 1) + 1 + n) q with
              | inl k =>
                rw [hq] at h
                cases h
              | inr rs' =>
                rw [hq] at h
                cases h
                obtain ⟨a1, a2⟩ := rows_facts (by omega) hq
                obtain ⟨b1, b2⟩ := nums_text hr
                refine ⟨?_, Up.cons o a2.up, fun t ht => ?_⟩
                · rw [hl, b1, a1] at pre
                  rw [pre]
                  show _ = _ ++ (s :: vs.map numT) ++ rw false rs'
                  simp
                · rcases List.mem_cons.mp ht with rfl | ht
                  · exact ⟨(nums_facts hr).1, b2⟩
                  · exact a2.row t ht
          · rw [if_neg o] at h
            cases h
      · rw [if_neg c] at h
        cases h
theorem rows_back : ∀ {rs : Rws} {n f : Nat} {first : Bool} {prev : Str} {i : Nat}, RwOk n prev rs → (rw first rs).length < f → rowsEnd n f first prev i (rw first rs) = .inr rs
  | [], n, f, first, prev, i, _, hf => by
    rw [rows_step hf]
    show (if [] = [] then _ else _) = _
    rw [if_pos rfl]
  | t :: rs, n, f, first, prev, i, h, hf => by
    obtain ⟨s, vs⟩ := t
    obtain ⟨o, u⟩ := h.up.head
    obtain ⟨r1, r2⟩ := h.row (s, vs) (.head _)
    have e : rw first ((s, vs) :: rs) = (if first = true then [] else [(";" : Str)]) ++ (s :: vs.map numT) ++ rw false rs := rfl
    have ih := rows_back (rs := rs) (n := n) (f := f) (first := false) (prev := s) (i := (if first = true then i else i + 1) + 1 + n) ⟨u, fun t ht => h.row t (.tail _ ht)⟩ (by
      rw [e, List.length_append] at hf
      omega)
    rw [rows_step hf]
    rw [e]
    have ne : ¬ ((if first = true then [] else [(";" : Str)]) ++ (s :: vs.map numT) ++ rw false rs) = [] := by simp
    have hd : first = true ∨ ((if first = true then [] else [(";" : Str)]) ++ (s :: vs.map numT) ++ rw false rs).head? = some (";" : Str) := by
      by_cases ff : first = true
      · exact .inl ff
      · right
        rw [if_neg ff]
        rfl
    have cut1 : (if first = true then ((if first = true then [] else [(";" : Str)]) ++ (s :: vs.map numT) ++ rw false rs) else ((if first = true then [] else [(";" : Str)]) ++ (s :: vs.map numT) ++ rw false rs).drop 1) = s :: (vs.map numT ++ rw false rs) := by
      by_cases ff : first = true
      · rw [if_pos ff, if_pos ff]
        rfl
      · rw [if_neg ff, if_neg ff]
        rfl
    have nb := nums_back (vs := vs) (i := (if first = true then i else i + 1) + 1) (s := rw false rs) r2
    have r1' : vs.length = n := r1
    rw [r1'] at nb
    rw [if_neg ne, if_pos hd, cut1]
    dsimp only
    rw [if_pos o, nb]
    dsimp only
    rw [ih]
/-- what a text's words tell: the first word that cannot stand, or the uses and the rows -/
def due (l : List Str) : Sum Nat (List Str × Rws) := match usesEnd "" 0 l with
  | .inl k => .inl k
  | .inr (us, s) => match rowsEnd us.length (s.length + 1) true "" (us.length + 1) s with
    | .inl k => .inl k
    | .inr rs => .inr (us, rs)
/-- the words of a table -/
def tblW (us : List Str) (rs : Rws) : List Str := us ++ (":" : Str) :: rw true rs
theorem due_facts {l : List Str} {us : List Str} {rs : Rws} (h : due l = .inr (us, rs)) : l = tblW us rs ∧ Up "" us ∧ RwOk us.length "" rs := by
  unfold due at h
  cases hu : usesEnd "" 0 l with
  | inl k =>
    rw [hu] at h
    cases h
  | inr p =>
    obtain ⟨us', s⟩ := p
    rw [hu] at h
    dsimp only at h
    cases hr : rowsEnd us'.length (s.length + 1) true "" (us'.length + 1) s with
    | inl k =>
      rw [hr] at h
      cases h
    | inr rs' =>
      rw [hr] at h
      cases h
      obtain ⟨a1, a2⟩ := uses_facts hu
      obtain ⟨b1, b2⟩ := rows_facts (Nat.lt_succ_self _) hr
      refine ⟨?_, a2, b2⟩
      rw [a1, b1]
      rfl
theorem due_back {us : List Str} {rs : Rws} (hu : Up "" us) (hr : RwOk us.length "" rs) : due (tblW us rs) = .inr (us, rs) := by
  unfold due tblW
  rw [uses_back hu]
  dsimp only
  rw [rows_back hr (Nat.lt_succ_self _)]
end Wd

set_option Elab.async false
set_option linter.all false
set_option maxRecDepth 100000
set_option maxHeartbeats 4000000
set_option autoImplicit false
/-! A table's text, read word by word. -/
namespace Wd
open PySem PySem.NumText Fk
open Dg hiding numT
def gU (a : List Str) : Sum Nat (List Str × List Str) → Sum Nat (List Str × List Str)
  | .inl k => .inl k
  | .inr p => .inr (a ++ p.1, p.2)
def gN (a : List Int) : Sum Nat (List Int × List Str) → Sum Nat (List Int × List Str)
  | .inl k => .inl k
  | .inr p => .inr (a ++ p.1, p.2)
def gR (a : Rws) : Sum Nat Rws → Sum Nat Rws
  | .inl k => .inl k
  | .inr p => .inr (a ++ p)
theorem gU_gU (a b : List Str) (r : Sum Nat (List Str × List Str)) : gU a (gU b r) = gU (a ++ b) r := by
  cases r with
  | inl k => rfl
  | inr p => show Sum.inr _ = Sum.inr _; rw [List.append_assoc]
theorem gN_gN (a b : List Int) (r : Sum Nat (List Int × List Str)) : gN a (gN b r) = gN (a ++ b) r := by
  cases r with
  | inl k => rfl
  | inr p => show Sum.inr _ = Sum.inr _; rw [List.append_assoc]
theorem gR_gR (a b : Rws) (r : Sum Nat Rws) : gR a (gR b r) = gR (a ++ b) r := by
  cases r with
  | inl k => rfl
  | inr p => show Sum.inr _ = Sum.inr _; rw [List.append_assoc]
theorem gU_nil (r : Sum Nat (List Str × List Str)) : gU [] r = r := by cases r <;> rfl
theorem gN_nil (r : Sum Nat (List Int × List Str)) : gN [] r = r := by cases r <;> rfl
theorem gR_nil (r : Sum Nat Rws) : gR [] r = r := by cases r <;> rfl
theorem drop_at {ww : List Str} {i : Nat} {x : Str} (h : ww[i]? = some x) : ww.drop i = x :: ww.drop (i + 1) := by
  obtain ⟨hi, e⟩ := List.getElem?_eq_some_iff.mp h
  rw [List.drop_eq_getElem_cons hi, e]
theorem drop_none {ww : List Str} {i : Nat} (h : ww[i]? = none) : ww.drop i = [] := List.drop_eq_nil_of_le (List.getElem?_eq_none_iff.mp h)
theorem nowN_some {prev x : Str} {ww : List Str} {i : Nat} (h : nowN prev ww i = some x) : ww[i]? = some x ∧ okN prev x = true := by
  unfold nowN at h
  cases e : ww[i]? with
  | none =>
    rw [e] at h
    cases h
  | some y =>
    rw [e] at h
    dsimp only at h
    by_cases o : okN prev y = true
    · rw [if_pos o] at h
      cases h
      exact ⟨rfl, o⟩
    · rw [if_neg o] at h
      cases h
theorem nowN_none {prev x : Str} {ww : List Str} {i : Nat} (h : nowN prev ww i = none) (e : ww[i]? = some x) : ¬ okN prev x = true := fun o => by
  unfold nowN at h
  rw [e] at h
  dsimp only at h
  rw [if_pos o] at h
  cases h
theorem nowA_some {ww : List Str} {i v : Nat} (h : nowA 0 ww i = some v) : ∃ x, ww[i]? = some x ∧ numB x = true ∧ v = valT x := by
  unfold nowA at h
  cases e : ww[i]? with
  | none =>
    rw [e] at h
    cases h
  | some y =>
    rw [e] at h
    dsimp only at h
    rw [decide_eq_true (Nat.zero_le _), Bool.and_true] at h
    by_cases o : numB y = true
    · rw [if_pos o] at h
      cases h
      exact ⟨y, rfl, o, rfl⟩
    · rw [if_neg o] at h
      cases h
theorem nowA_none {ww : List Str} {i : Nat} {x : Str} (h : nowA 0 ww i = none) (e : ww[i]? = some x) : ¬ numB x = true := fun o => by
  unfold nowA at h
  rw [e] at h
  dsimp only at h
  rw [o, decide_eq_true (Nat.zero_le _)] at h
  cases h
/-! the uses -/
theorem uses_col {prev : Str} {ww : List Str} {i : Nat} (h : ww[i]? = some (":" : Str)) : usesEnd prev i (ww.drop i) = .inr ([], ww.drop (i + 1)) := by
  rw [drop_at h]
  unfold usesEnd
  rw [if_pos rfl]
theorem uses_bad {prev : Str} {ww : List Str} {i : Nat} (c : ww[i]? ≠ some (":" : Str)) (h : nowN prev ww i = none) : usesEnd prev i (ww.drop i) = .inl i := by
  cases e : ww[i]? with
  | none =>
    rw [drop_none e]
    rfl
  | some x =>
    rw [drop_at e]
    unfold usesEnd
    rw [if_neg fun z => c (by rw [e, z]), if_neg (nowN_none h e)]
theorem uses_go {prev x : Str} {ww : List Str} {i : Nat} (c : ww[i]? ≠ some (":" : Str)) (h : nowN prev ww i = some x) : usesEnd prev i (ww.drop i) = gU [x] (usesEnd x (i + 1) (ww.drop (i + 1))) := by
  obtain ⟨e, o⟩ := nowN_some h
  rw [drop_at e]
  conv => lhs; unfold usesEnd
  rw [if_neg fun z => c (by rw [e, z]), if_pos o]
  cases usesEnd x (i + 1) (ww.drop (i + 1)) <;> rfl
/-! the numbers -/
theorem nums_bad {n : Nat} {ww : List Str} {i : Nat} (h : nowA 0 ww i = none) : numsEnd (n + 1) i (ww.drop i) = .inl i := by
  cases e : ww[i]? with
  | none =>
    rw [drop_none e]
    rfl
  | some x =>
    rw [drop_at e]
    unfold numsEnd
    rw [if_neg (nowA_none h e)]
theorem nums_go {n : Nat} {ww : List Str} {i v : Nat} (h : nowA 0 ww i = some v) : numsEnd (n + 1) i (ww.drop i) = gN [((v : Nat) : Int)] (numsEnd n (i + 1) (ww.drop (i + 1))) := by
  obtain ⟨x, e, o, ev⟩ := nowA_some h
  rw [drop_at e, ev]
  conv => lhs; unfold numsEnd
  rw [if_pos o]
  cases numsEnd n (i + 1) (ww.drop (i + 1)) <;> rfl
/-! the rows -/
def rowsAt (n : Nat) (ww : List Str) (first : Bool) (prev : Str) (i : Nat) : Sum Nat Rws := rowsEnd n ((ww.drop i).length + 1) first prev i (ww.drop i)
theorem rA_end {n : Nat} {ww : List Str} {first : Bool} {prev : Str} {i : Nat} (h : ww.length ≤ i) : rowsAt n ww first prev i = .inr [] := by
  unfold rowsAt
  rw [rows_step (Nat.lt_succ_self _), if_pos (List.drop_eq_nil_of_le h)]
theorem rA_semi {n : Nat} {ww : List Str} {prev : Str} {i : Nat} (h : i < ww.length) (c : ww[i]? ≠ some (";" : Str)) : rowsAt n ww false prev i = .inl i := by
  unfold rowsAt
  have e : ww[i]? = some ww[i] := List.getElem?_eq_getElem h
  rw [rows_step (Nat.lt_succ_self _), drop_at e, if_neg (List.cons_ne_nil _ _), if_neg fun z => ?_]
  rcases z with z | z
  · cases z
  · exact c (by rw [e]; exact z)
theorem rA_bad {n : Nat} {ww : List Str} {first : Bool} {prev : Str} {i : Nat} (h : i < ww.length) (c : first = true ∨ ww[i]? = some (";" : Str)) (hn : nowN prev ww (if first = true then i else i + 1) = none) : rowsAt n ww first prev i = .inl (if first = true then i else i + 1) := by
  unfold rowsAt
  have e : ww[i]? = some ww[i] := List.getElem?_eq_getElem h
  have d : ww.drop i = ww[i] :: ww.drop (i + 1) := drop_at e
  have c' : first = true ∨ (ww.drop i).head? = some (";" : Str) := by
    rcases c with c | c
    · exact .inl c
    · right
      rw [d, ← c, e]
      rfl
  have dd : (if first = true then ww.drop i else (ww.drop i).drop 1) = ww.drop (if first = true then i else i + 1) := by
    by_cases f : first = true
    · rw [if_pos f, if_pos f]
    · rw [if_neg f, if_neg f, List.drop_drop]
  rw [rows_step (Nat.lt_succ_self _), if_neg (by rw [d]; exact List.cons_ne_nil _ _), if_pos c', dd]
  cases e2 : ww[if first = true then i else i + 1]? with
  | none => rw [drop_none e2]
  | some x =>
    rw [drop_at e2]
    dsimp only
    rw [if_neg (nowN_none hn e2)]
theorem rA_go {n : Nat} {ww : List Str} {first : Bool} {prev x : Str} {i : Nat} (h : i < ww.length) (c : first = true ∨ ww[i]? = some (";" : Str)) (hn : nowN prev ww (if first = true then i else i + 1) = some x) :
    rowsAt n ww first prev i = match numsEnd n ((if first = true then i else i + 1) + 1) (ww.drop ((if first = true then i else i + 1) + 1)) with
      | .inl k => .inl k
      | .inr p => gR [(x, p.1)] (rowsAt n ww false x ((if first = true then i else i + 1) + 1 + n)) := by
  have e : ww[i]? = some ww[i] := List.getElem?_eq_getElem h
  have d : ww.drop i = ww[i] :: ww.drop (i + 1) := drop_at e
  have c' : first = true ∨ (ww.drop i).head? = some (";" : Str) := by
    rcases c with c | c
    · exact .inl c
    · right
      rw [d, ← c, e]
      rfl
  have dd : (if first = true then ww.drop i else (ww.drop i).drop 1) = ww.drop (if first = true then i else i + 1) := by
    by_cases f : first = true
    · rw [if_pos f, if_pos f]
    · rw [if_neg f, if_neg f, List.drop_drop]
  obtain ⟨e2, o⟩ := nowN_some hn
  conv => lhs; unfold rowsAt
  rw [rows_step (Nat.lt_succ_self _), if_neg (by rw [d]; exact List.cons_ne_nil _ _), if_pos c', dd, drop_at e2]
  dsimp only
  rw [if_pos o]
  have ij : i ≤ (if first = true then i else i + 1) := by
    split
    · exact Nat.le_refl _
    · exact Nat.le_succ _
  generalize (if first = true then i else i + 1) = j at *
  cases hr : numsEnd n (j + 1) (ww.drop (j + 1)) with
  | inl k => rfl
  | inr p =>
    obtain ⟨vs, q⟩ := p
    dsimp only
    obtain ⟨l1, l2⟩ := nums_facts hr
    obtain ⟨t1, _⟩ := nums_text hr
    have eq : q = ww.drop (j + 1 + n) := by
      rw [← List.drop_drop, t1, List.drop_append, List.length_map, l1, Nat.sub_self, List.drop_zero, List.drop_eq_nil_of_le (by rw [List.length_map, l1]; exact Nat.le_refl _)]
      rfl
    have lq : q.length < (ww.drop i).length := by
      rw [eq, List.length_drop, List.length_drop]
      omega
    have ee : rowsAt n ww false x (j + 1 + n) = rowsEnd n (q.length + 1) false x (j + 1 + n) q := by
      unfold rowsAt
      rw [← eq]
    rw [ee, rows_fuel (f := (ww.drop i).length.succ) (g := q.length + 1) (Nat.lt_succ_of_lt lq) (Nat.lt_succ_self _)]
    cases rowsEnd n (q.length + 1) false x (j + 1 + n) q <;> rfl
theorem due_at (ww : List Str) : due ww = match usesEnd "" 0 ww with
    | .inl k => .inl k
    | .inr p => match rowsEnd p.1.length (p.2.length + 1) true "" (p.1.length + 1) p.2 with
      | .inl k => .inl k
      | .inr rs => .inr (p.1, rs) := by
  unfold due
  cases usesEnd "" 0 ww <;> rfl
end Wd

set_option Elab.async false
set_option linter.all false
set_option maxRecDepth 100000
set_option maxHeartbeats 4000000
/-! take_one, with a single choice. -/
namespace Wd
open PySem PySem.NumText PySem.Spec PyProof.Rows L2 EvP Cm Fk
open Dg hiding numT
def spTOne (C CB : Addr) : Sp := fun vs H Q E => ∃ (a dx l c : Addr) (ww : List Str) (i : Nat) (s : Str), vs = [.ref a, .ref c] ∧ WdAt C H a dx l ww i ∧ H c = some (.tup [.str s]) ∧
  (ww[i]? = some s → Q (.str s) (upd H a (WdO C dx l (i + 1)))) ∧ (ww[i]? ≠ some s → ∀ d H', Ex H H' → H' d = some (.xd (badF i)) → E (.ref CB) (some d) H')
theorem scTOne : FnScope ["self", "choices", "word"] ["self", "choices"] (defScope (wmeth 3)) := ⟨rfl, rfl, rfl, by decide +kernel, rfl, by decide +kernel, by decide +kernel⟩
theorem in_one (x s : Str) : inV (.str x) [.str s] = decide (x = s) := by
  unfold inV
  show (eqV (.str s) (.str x) || false) = _
  rw [Bool.or_false]
  show decide (s = x) = _
  exact decide_eq_decide.mpr eq_comm
theorem in_one_non (s : Str) : inV .non [.str s] = false := rfl
section
variable {P : Program} {w : World} {K : PySem.W.Frag} {mg : Str → Option Value} {base : Heap} {C CB f fI f1 f2 f3 f4 : Addr} {fd fdI fd1 fd2 fd3 fd4 : FuncData} {dvs : List V}
theorem ok_tone (F : Fun K "take_one" "Words.take_one" (wmeth 3) f fd) (S : WdC K C) (L : BadC P w K mg base CB fI fdI) (m2 : Meth K C "word_now" f2) (G : FnOk P w K mg base CX0 2 f2 fd2 ["self"] (spNow C)) (b : Binds K fd2 ["self"] []) : FnOk P w K mg base (L2.CX P w) 4 f fd ["self", "choices"] (spTOne C CB) := by
  have nd := scTOne.nd
  refine F.okX scTOne (fun vs H Q E h => ?_) (fun cdv A outer s H vs Q E hr h => ?_)
  · obtain ⟨a, dx, l, c, ww, i, s, rfl, _⟩ := h
    rfl
  · obtain ⟨a, dx, l, c, ww, i, s, rfl, h, hc, q1, q2⟩ := h
    refine ⟨_, pss_cons (ps_set (i := 2) nd rfl (Or.inl rfl) (pe_meth0 (pv 0) S.cl m2 G (hr.mono (by decide)) b .nil pass0))
      (pss_cons (ps_if (pt_cmpR op_notIn_seq (pv 2) (pv 1) (by rfl))
        (pss_one (ps_raise (W := fun cls d _ H => E cls d H) rfl (takes_of rfl rfl rfl rfl) (pmk_oex (CX := CX0) L.T L.iC L.tI L.G (hr.mono (by decide)) L.b .nil pass0 (by rfl) L.g (pa_cons pe_int (pa_cons (pe_fld (pv 0) rfl) pa_nil))))) pss_nil)
      (pss_cons (ps_fldaug (pv 0) pe_int in_add) (pss_one (ps_ret (pv 2))))), ?_⟩
    refine ⟨_, rfl, a, dx, _, rfl, h.at_, rfl, a, dx, l, ww, i, rfl, h, ?_⟩
    cases e : ww[i]? with
    | none =>
      rw [now_none e]
      refine ⟨_, rfl, _, rfl, c, _, rfl, .inr (SqT.of hc), rfl, rfl, _, rfl, ?_⟩
      exact raise_bad L (g_at S rfl h) (q2 (by rw [e]; exact fun z => nomatch z))
    | some x =>
      rw [now_some e]
      refine ⟨_, rfl, _, rfl, c, _, rfl, .inr (SqT.of hc), rfl, rfl, _, rfl, ?_⟩
      rw [if_pos rfl, in_one]
      by_cases xs : x = s
      · rw [decide_eq_true xs]
        subst xs
        exact ⟨_, rfl, a, C, dx, _, _, rfl, h.at_, S.cl, S.nA, rfl, _, _, rfl, rfl, dx, _, h.at_, by show 2 < 1000; decide, _, rfl, q1 e⟩
      · rw [decide_eq_false xs]
        exact raise_bad L (g_at S rfl h) (q2 (by rw [e]; exact fun z => xs (Option.some.inj z)))
end
end Wd

set_option Elab.async false
set_option linter.all false
set_option maxRecDepth 100000
set_option maxHeartbeats 4000000
/-! take_rows. -/
namespace Wd
open PySem PySem.NumText PySem.Spec PyProof.Rows L2 EvP Cm Fk
open Dg hiding numT
open Tb (Tab TabAt rowsO)
/-- rows with the names of their numbers -/
def tabOf (us : List Str) (rs : Rws) : List (Str × Fk.Row) := rs.map fun t => (t.1, us.zip t.2)
def spTake (C CB : Addr) : Sp := fun vs H Q E => ∃ (a dx l : Addr) (ww : List Str), vs = [.ref a] ∧ WdAt C H a dx l ww 0 ∧ (("|" : Str) ∉ ww) ∧
  (∀ us rs, due ww = .inr (us, rs) → ∀ (t d u : Addr) (T : Tab) H', ButX a H H' → H' t = some (.tup [.ref d, .ref u]) → TabAt H' d T → (T.map (·.2.1)).Nodup → T.map (fun t => (t.1, t.2.2)) = tabOf us rs → H' u = some (.lst (us.map V.str)) → WdAt C H' a dx l ww ww.length → Q (.ref t) H') ∧
  (∀ k, due ww = .inl k → ∀ d H', ButX a H H' → H' d = some (.xd (badF k)) → E (.ref CB) (some d) H')
/-- how far the uses are read -/
structure TkU (C a dx l u : Addr) (H : Hp) (ww : List Str) (μ : Nat) (σ : L2.St) (H' : Hp) (us1 : List Str) (prev : Str) (i : Nat) : Prop where
  μ : μ = ww.length - i
  σ : σ = [some (.ref a), some (.ref u), none, none, none]
  but : ButX a H H'
  u : H' u = some (.lst (us1.map V.str))
  w : WdAt C H' a dx l ww i
  ew : usesEnd "" 0 ww = gU us1 (usesEnd prev i (ww.drop i))
  len : us1.length = i
  p0 : us1 = [] → prev = ""
  p1 : us1 ≠ [] → us1.getLast? = some prev
def NTk : List Str := ["words", "uses", "rows", "source", "use"]
theorem scTake : FnScope NTk ["words"] (defScope (top 35)) := ⟨rfl, rfl, rfl, by decide +kernel, rfl, by decide +kernel, by decide +kernel⟩
theorem g_last {K : PySem.W.Frag} {σ : L2.St} {H : Hp} {u : Addr} {us1 : List Str} {prev : Str} (hu : σ[1]? = some (some (.ref u))) (h : H u = some (.lst (us1.map V.str))) (p0 : us1 = [] → prev = "") (p1 : us1 ≠ [] → us1.getLast? = some prev) {Q : VK} (q : Q (.str prev) H) :
    tIf (fun σ H Q => tVar 1 σ H fun x H' => ∃ k, TruV K x H' k ∧ Q k H') (tOp (rIxL K) (tVar 1) (tUn (rU fun i => .int (-i)) (tC (.int 1)))) (tC (.str "")) σ H Q := by
  refine ⟨_, hu, (!us1.isEmpty), .inl ⟨_, SqL.of h, by rw [List.isEmpty_map]⟩, ?_⟩
  cases us1 with
  | nil =>
    rw [p0 rfl] at q
    exact q
  | cons x r =>
    refine ⟨_, hu, 1, rfl, u, _, _, .str prev, rfl, rfl, SqL.of h, ?_, q⟩
    have e := p1 (List.cons_ne_nil _ _)
    rw [List.getLast?_eq_getElem?] at e
    unfold atI ixN
    rw [List.length_map, if_neg (by decide)]
    rw [if_pos (by rw [List.length_cons]; omega)]
    show ((x :: r).map V.str)[_]? = _
    rw [List.getElem?_map]
    have : ((-1 : Int) + ((x :: r).length : Nat)).toNat = (x :: r).length - 1 := by omega
    rw [this, e]
    rfl
/-- how far the rows are read -/
structure TkR (C a dx l u dR : Addr) (H : Hp) (ww us : List Str) (i0 : Nat) (μ : Nat) (σ : L2.St) (H' : Hp) (T : Tab) (rs : Rws) (src : Str) (i : Nat) (o4 : Option V) : Prop where
  μ : μ = ww.length - i
  σ : σ = [some (.ref a), some (.ref u), some (.ref dR), some (.str src), o4]
  but : ButX a H H'
  u : H' u = some (.lst (us.map V.str))
  w : WdAt C H' a dx l ww i
  d : TabAt H' dR T
  nodA : (T.map (·.2.1)).Nodup
  tab : T.map (fun t => (t.1, t.2.2)) = tabOf us rs
  ew : rowsAt us.length ww true "" i0 = gR rs (rowsAt us.length ww rs.isEmpty src i)
  up : ∀ t ∈ T, t.1 = src ∨ tl t.1 < tl src
  few : T.length ≤ i
/-- one row more, from word j on -/
theorem row_turn {K : PySem.W.Frag} {C CB a dx l u dR : Addr} {H H1 : Hp} {ww us : List Str} {i0 i j : Nat} {T : Tab} {rs : Rws} {src : Str} {o4 : Option V} {E : XK} {D : Ends} (hi : i < ww.length) (ej : j = if rs.isEmpty = true then i else i + 1) (hc : rs.isEmpty = true ∨ ww[i]? = some (";" : Str))
    (bt : ButX a H H1) (hu : H1 u = some (.lst (us.map V.str))) (hw : WdAt C H1 a dx l ww j) (hT : TabAt H1 dR T) (nodA : (T.map (·.2.1)).Nodup) (tab : T.map (fun t => (t.1, t.2.2)) = tabOf us rs) (ew : rowsAt us.length ww true "" i0 = gR rs (rowsAt us.length ww rs.isEmpty src i)) (up : ∀ t ∈ T, t.1 = src ∨ tl t.1 < tl src) (few : T.length ≤ i)
    (nu : H u = none) (nR : H dR = none) (nod : us.Nodup)
    (kN : ∀ m σ2 H2 T2 rs2 src2 i2 o42, m < ww.length - i → TkR C a dx l u dR H ww us i0 m σ2 H2 T2 rs2 src2 i2 o42 → D.nx σ2 H2)
    (kE : ∀ k, rowsAt us.length ww true "" i0 = .inl k → ∀ d H', ButX a H H' → H' d = some (.xd (badF k)) → E (.ref CB) (some d) H') :
    tSeq (tAsg (tMeth C "take_name" (spTName C CB) [] E (tVar 0) (tCons (tC (.str "")) (tCons (tVar 3) tNil))) (gName 3))
      (tSeq (sDPut (tVar 2) (tVar 3) tDNewK)
        (tFor (iList K (tVar 1)) (gName 4) (sDPut (tDGet (tVar 2) (tVar 3)) (tVar 4) (tMeth C "take_number" (spTNum C CB) [] E (tVar 0) (tCons (tC (.int 0)) tNil))))) D [some (.ref a), some (.ref u), some (.ref dR), some (.str src), o4] H1 := by
  have ua : u ≠ a := ne_of hu hw.at_ (fun z => nomatch z)
  have Ra : dR ≠ a := ne_of hT.at_ hw.at_ (fun z => nomatch z)
  refine ⟨_, rfl, a, dx, _, rfl, hw.at_, rfl, _, rfl, a, dx, l, ww, j, src, rfl, hw, fun x hx => ?_, fun hn d H2 e2 hd2 => kE j (by rw [ew, ej, rA_bad hi hc (by rw [← ej]; exact hn)]; rfl) d H2 (fun b o hb ne => e2 _ _ (bt b o hb ne)) hd2⟩
  obtain ⟨ex, ox⟩ := nowN_some hx
  have go := rA_go (n := us.length) (prev := src) (x := x) hi hc (by rw [← ej]; exact hx)
  rw [← ej] at go
  have hw2 := hw.go (j := j + 1) (lt_up ex)
  have ne_a : ∀ {b o o'}, H1 b = some o → b ≠ a → upd H1 a o' b = some o := fun h ne => by rw [upd_ne ne]; exact h
  have hu2 : upd H1 a (WdO C dx l (j + 1)) u = some (.lst (us.map V.str)) := ne_a hu ua
  have ra : ∀ t ∈ T, t.2.1 ≠ a := fun t ht => ne_of (hT.row t ht) hw.at_ (fun z => nomatch z)
  have hT2 : TabAt (upd H1 a (WdO C dx l (j + 1))) dR T := ⟨ne_a hT.at_ Ra, fun t ht => ne_a (hT.row t ht) (ra t ht)⟩
  have bt2 : ButX a H (upd H1 a (WdO C dx l (j + 1))) := fun b o hb ne => ne_a (bt b o hb ne) ne
  generalize upd H1 a (WdO C dx l (j + 1)) = H2 at hw2 hu2 hT2 bt2 ⊢
  intro dr nr
  have notin : x ∉ T.map (·.1) := fun m => by
    obtain ⟨t, ht, et⟩ := List.mem_map.mp m
    unfold okN at ox
    rw [Bool.and_eq_true, decide_eq_true_eq] at ox
    rcases up t ht with h | h
    · rw [← h, et] at ox
      exact List.lt_irrefl _ ox.2
    · rw [et] at h
      exact List.lt_irrefl _ (List.lt_trans h ox.2)
  have lT : T.length < sizeLine := by
    have := hw.few
    rw [sizeLine_eq]
    omega
  have e3 := Ex.new (o := .dK []) nr
  have rR : dR ≠ dr := ne_of_none hT2.at_ nr
  refine ⟨_, rfl, _, rfl, dR, _, rfl, DPut.k (k := Sum.inr x) (e3 _ _ hT2.at_) (by rw [List.length_map]; exact lT), ?_⟩
  have hT3 : TabAt (upd (upd H2 dr (.dK [])) dR (.dK (putK (T.map fun t => ((Sum.inr t.1 : Key), V.ref t.2.1)) (Sum.inr x) (.ref dr)))) dR (T ++ [(x, dr, [])]) := by
    refine ⟨by rw [upd_same, K06.rows_new (row := []) notin], fun t ht => ?_⟩
    rcases List.mem_append.mp ht with ht | ht
    · rw [upd_ne (hT2.ne t ht)]
      exact e3 _ _ (hT2.row t ht)
    · obtain rfl := List.mem_singleton.mp ht
      rw [upd_ne rR.symm]
      exact upd_same
  have k3 : ∀ {b o}, H2 b = some o → b ≠ dR → upd (upd H2 dr (.dK [])) dR (.dK (putK (T.map fun t => ((Sum.inr t.1 : Key), V.ref t.2.1)) (Sum.inr x) (.ref dr))) b = some o := fun h ne => by
    rw [upd_ne ne]
    exact e3 _ _ h
  have hu3 := k3 hu2 (ne_of hu2 hT2.at_ fun z => nomatch z)
  have hw3 : WdAt C _ a dx l ww (j + 1) := ⟨k3 hw2.at_ Ra.symm, k3 hw2.ls (ne_of hw2.ls hT2.at_ fun z => nomatch z), hw2.le, hw2.few, hw2.fine⟩
  have bt3 : ButX a H (upd (upd H2 dr (.dK [])) dR (.dK (putK (T.map fun t => ((Sum.inr t.1 : Key), V.ref t.2.1)) (Sum.inr x) (.ref dr)))) := fun b o hb ne => k3 (bt2 b o hb ne) (ne_of_none hb nR)
  have drH : ∀ b o, H b = some o → b ≠ a → b ≠ dr := fun b o hb ne => ne_of_none (bt2 b o hb ne) nr
  have drT : ∀ t ∈ T, t.2.1 ≠ dr := fun t ht => ne_of_none (hT2.row t ht) nr
  generalize upd (upd H2 dr (.dK [])) dR (.dK (putK (T.map fun t => ((Sum.inr t.1 : Key), V.ref t.2.1)) (Sum.inr x) (.ref dr))) = H3 at hT3 hu3 hw3 bt3 ⊢
  refine ⟨_, rfl, u, rfl, ⟨_, SqL.of hu3⟩, for_list (xs := us.map V.str) (fun m sg H' => ∃ (o4 : Option V) (vs : List Int), sg = [some (.ref a), some (.ref u), some (.ref dR), some (.str x), o4] ∧ ButX a H H' ∧ H' u = some (.lst (us.map V.str)) ∧ WdAt C H' a dx l ww (j + 1 + m) ∧ TabAt H' dR (T ++ [(x, dr, (us.take m).zip vs)]) ∧ vs.length = m ∧
      numsEnd us.length (j + 1) (ww.drop (j + 1)) = gN vs (numsEnd (us.length - m) (j + 1 + m) (ww.drop (j + 1 + m))))
    ⟨o4, [], rfl, bt3, hu3, hw3, hT3, rfl, (gN_nil _).symm⟩ (fun m sg H' _ ⟨_, _, _, _, hu', _⟩ => SqL.of hu') (fun m z sg H' hm ⟨o4', vs, esg, bt4, hu4, hw4, hT4, lv, ev⟩ => ?_) (fun sg H' ⟨o4', vs, esg, bt4, hu4, hw4, hT4, lv, ev⟩ => ?_)⟩
  · subst esg
    rw [List.getElem?_map] at hm
    obtain ⟨y, hy, rfl⟩ := Option.map_eq_some_iff.mp hm
    have ml : m < us.length := (List.getElem?_eq_some_iff.mp hy).1
    have ea4 : ∀ t ∈ T ++ [(x, dr, (us.take m).zip vs)], t.2.1 ≠ a := fun t ht => ne_of (hT4.row t ht) hw4.at_ (fun z => nomatch z)
    have sub : us.length - m = (us.length - (m + 1)) + 1 := by omega
    refine ⟨_, rfl, a, dx, _, rfl, hw4.at_, rfl, a, dx, l, ww, j + 1 + m, 0, rfl, hw4, fun v hv => ?_, fun hn d H5 e5 hd5 => kE (j + 1 + m) (by rw [ew, go, ev, sub, nums_bad hn]; rfl) d H5 (fun b o hb ne => e5 _ _ (bt4 b o hb ne)) hd5⟩
    obtain ⟨xw, exw, _, _⟩ := nowA_some hv
    have hw5 := hw4.go (j := j + 1 + m + 1) (lt_up exw)
    have ne_a4 : ∀ {b o o'}, H' b = some o → b ≠ a → upd H' a o' b = some o := fun h ne => by rw [upd_ne ne]; exact h
    have hT5 : TabAt (upd H' a (WdO C dx l (j + 1 + m + 1))) dR (T ++ [(x, dr, (us.take m).zip vs)]) := ⟨ne_a4 hT4.at_ Ra, fun t ht => ne_a4 (hT4.row t ht) (ea4 t ht)⟩
    have hu5 : upd H' a (WdO C dx l (j + 1 + m + 1)) u = some (.lst (us.map V.str)) := ne_a4 hu4 ua
    have bt5 : ButX a H (upd H' a (WdO C dx l (j + 1 + m + 1))) := fun b o hb ne => ne_a4 (bt4 b o hb ne) ne
    generalize upd H' a (WdO C dx l (j + 1 + m + 1)) = H5 at hw5 hT5 hu5 bt5 ⊢
    have gt : DGet H5 dR (.str x) (some (.ref dr)) := by
      have z := DGet.k (k := Sum.inr x) hT5.at_
      rw [← K06.rows_new notin, valV_put, if_pos rfl] at z
      exact z
    have hr5 : H5 dr = some (.dK (ents ((us.take m).zip vs))) := hT5.row _ (List.mem_append_right _ (List.mem_singleton.mpr rfl))
    have ynot : y ∉ ((us.take m).zip vs).map (·.1) := fun h => by
      obtain ⟨e, he, ee⟩ := List.mem_map.mp h
      have hm1 := (List.of_mem_zip (show (e.1, e.2) ∈ _ from he)).1
      rw [ee] at hm1
      obtain ⟨n, hn, en⟩ := List.getElem_of_mem hm1
      rw [List.getElem_take] at en
      have hn' : n < m := by
        rw [List.length_take] at hn
        omega
      have := (List.getElem?_inj (i := n) (j := m) (by omega) nod).mp (by rw [List.getElem?_eq_getElem (by omega), en, hy])
      omega
    have lz : ((us.take m).zip vs).length < sizeLine := by
      rw [List.length_zip, lv, sizeLine_eq]
      have := hw5.le
      have := hw5.few
      omega
    refine ⟨_, rfl, _, rfl, dR, _, rfl, gt, _, rfl, dr, _, rfl, DPut.k (k := Sum.inr y) hr5 (by unfold ents; rw [List.length_map]; exact lz), ?_⟩
    rw [K06.ents_new ynot]
    have zz : (us.take m).zip vs ++ [(y, ((v : Nat) : Int))] = (us.take (m + 1)).zip (vs ++ [((v : Nat) : Int)]) := by
      rw [List.take_add_one, hy]
      show _ = (us.take m ++ [y]).zip _
      rw [List.zip_append (by rw [List.length_take, lv]; omega)]
      rfl
    rw [zz]
    have k6 : ∀ {b o}, H5 b = some o → b ≠ dr → upd H5 dr (.dK (ents ((us.take (m + 1)).zip (vs ++ [((v : Nat) : Int)])))) b = some o := fun h ne => by
      rw [upd_ne ne]
      exact h
    refine ⟨_, vs ++ [((v : Nat) : Int)], rfl, fun b o hb ne => k6 (bt5 b o hb ne) (drH b o hb ne), k6 hu5 (ne_of hu5 hr5 fun z => nomatch z), ⟨k6 hw5.at_ (ne_of hw5.at_ hr5 fun z => nomatch z), k6 hw5.ls (ne_of hw5.ls hr5 fun z => nomatch z), hw5.le, hw5.few, hw5.fine⟩, ⟨?_, fun t ht => ?_⟩, by rw [List.length_append, lv]; rfl, by rw [ev, sub, nums_go hv, gN_gN]; rfl⟩
    · rw [upd_ne rR, hT5.at_, List.map_append, List.map_append]
      rfl
    · rcases List.mem_append.mp ht with ht | ht
      · exact k6 (hT5.row t (List.mem_append_left _ ht)) (drT t ht)
      · obtain rfl := List.mem_singleton.mp ht
        exact upd_same
  · subst esg
    rw [List.length_map] at *
    rw [List.take_length] at hT4
    rw [Nat.sub_self] at ev
    have ev' : numsEnd us.length (j + 1) (ww.drop (j + 1)) = .inr (vs, ww.drop (j + 1 + us.length)) := by
      rw [ev]
      show Sum.inr (vs ++ [], _) = _
      rw [List.append_nil]
    rw [ev'] at go
    refine kN (ww.length - (j + 1 + us.length)) _ _ (T ++ [(x, dr, us.zip vs)]) (rs ++ [(x, vs)]) x (j + 1 + us.length) o4' (by have : i ≤ j := (by rw [ej]; split <;> omega); omega) ⟨rfl, rfl, bt4, hu4, hw4, hT4, ?_, ?_, ?_, fun t ht => ?_, ?_⟩
    · rw [List.map_append, List.nodup_append]
      refine ⟨nodA, List.nodup_cons.mpr ⟨List.not_mem_nil, List.nodup_nil⟩, fun p hp q hq e => ?_⟩
      obtain ⟨t, ht, rfl⟩ := List.mem_map.mp hp
      obtain rfl := List.mem_singleton.mp hq
      exact drT t ht e
    · unfold tabOf at tab ⊢
      rw [List.map_append, List.map_append, tab]
      rfl
    · rw [ew, go]
      show gR rs (gR [(x, vs)] _) = gR (rs ++ [(x, vs)]) (rowsAt us.length ww (rs ++ [(x, vs)]).isEmpty x _)
      rw [gR_gR, show (rs ++ [(x, vs)]).isEmpty = false from by cases rs <;> rfl]
    · rcases List.mem_append.mp ht with ht | ht
      · right
        unfold okN at ox
        rw [Bool.and_eq_true, decide_eq_true_eq] at ox
        rcases up t ht with h | h
        · rw [h]
          exact ox.2
        · exact List.lt_trans h ox.2
      · left
        rw [List.mem_singleton.mp ht]
    · rw [List.length_append]
      have : i ≤ j := (by rw [ej]; split <;> omega)
      show T.length + 1 ≤ _
      omega
section
variable {P : Program} {w : World} {K : PySem.W.Frag} {mg : Str → Option Value} {base : Heap} {C CB f fI f1 f2 f3 f4 fO : Addr} {fd fdI fd1 fd2 fd3 fd4 fdO : FuncData} {dvs : List V} {tS : Tok}
theorem ok_take (F : Fun K "take_rows" "take_rows" (top 35) f fd) (S : WdC K C) (T : Fk.Blt mg) (gS : mg "STROKE" = some (.str "|" tS)) (m2 : Meth K C "word_now" f2) (G2 : FnOk P w K mg base CX0 2 f2 fd2 ["self"] (spNow C)) (b2 : Binds K fd2 ["self"] [])
    (mO : Meth K C "take_one" fO) (GO : FnOk P w K mg base (L2.CX P w) 4 fO fdO ["self", "choices"] (spTOne C CB)) (bO : Binds K fdO ["self", "choices"] [])
    (m3 : Meth K C "take_name" f3) (G3 : FnOk P w K mg base (L2.CX P w) 4 f3 fd3 ["self", "least", "behind"] (spTName C CB)) (b3 : Binds K fd3 ["self", "least", "behind"] [])
    (m4 : Meth K C "take_number" f4) (G4 : FnOk P w K mg base (L2.CX P w) 4 f4 fd4 ["self", "least"] (spTNum C CB)) (b4 : Binds K fd4 ["self", "least"] []) : FnOk P w K mg base (L2.CX P w) 5 f fd ["words"] (spTake C CB) := by
  have nd := scTake.nd
  refine F.okX scTake (fun vs H Q E h => ?_) (fun cdv A outer s H vs Q E hr h => ?_)
  · obtain ⟨a, dx, l, ww, rfl, _⟩ := h
    rfl
  · obtain ⟨a, dx, l, ww, rfl, h, no, q1, q2⟩ := h
    have hu := hu_of hr
    refine ⟨_, pss_cons (ps_set (i := 1) nd rfl (Or.inl rfl) (pe_lst pa_nil))
      (pss_cons (ps_while (passes_of rfl) (pt_cmpR op_ne (pe_meth0 (pv 0) S.cl m2 G2 (hr.mono (by decide)) b2 .nil pass0) pe_str (nomark _))
        (pss_one (ps_expr (pe_bm PySem.F.plainAttrs_list PySem.F.slot_list_append PySem.F.type_list_append mt_append (pv 1)
          (pa_cons (pe_meth (E := E) (pv 0) S.cl m3 G3 hr b3 .nil (passes_call (W := fun cls d _ H => E cls d H) (takes_of rfl rfl rfl rfl) (fun _ _ _ _ z => z)) (pa_cons pe_str (pa_cons (pe_ifExp (pt_truth (pv 1) (fun _ => rfl)) (pe_ix ix_list (pv 1) (pe_un un_neg pe_int) (fun _ _ => rfl)) pe_str) pa_nil))) pa_nil)))))
      (pss_cons (ps_expr (pe_meth (E := E) (pv 0) S.cl mO GO hr bO .nil (passes_call (W := fun cls d _ H => E cls d H) (takes_of rfl rfl rfl rfl) (fun _ _ _ _ z => z)) (pa_cons (pe_tup (pa_cons pe_str pa_nil)) pa_nil)))
      (pss_cons (ps_set (i := 2) nd rfl (Or.inl rfl) pe_dnewK) (pss_cons (ps_set (i := 3) nd rfl (Or.inl rfl) pe_str)
      (pss_cons (ps_while (passes_of rfl) (pt_cmpR op_notIn_seq (pe_meth0 (pv 0) S.cl m2 G2 (hr.mono (by decide)) b2 .nil pass0) (pe_tup (pa_cons pe_non (pa_cons (pe_glob (v := .str "|") (by rfl) gS ⟨_, rfl⟩) pa_nil))) (by rfl))
        (pss_cons (ps_if (pt_truth (pv 2) (fun _ => rfl)) (pss_one (ps_expr (pe_meth (E := E) (pv 0) S.cl mO GO hr bO .nil (passes_call (W := fun cls d _ H => E cls d H) (takes_of rfl rfl rfl rfl) (fun _ _ _ _ z => z)) (pa_cons (pe_tup (pa_cons pe_str pa_nil)) pa_nil)))) pss_nil)
        (pss_cons (ps_set (i := 3) nd rfl (Or.inl rfl) (pe_meth (E := E) (pv 0) S.cl m3 G3 hr b3 .nil (passes_call (W := fun cls d _ H => E cls d H) (takes_of rfl rfl rfl rfl) (fun _ _ _ _ z => z)) (pa_cons pe_str (pa_cons (pv 3) pa_nil))))
        (pss_cons (ps_dput hu (pv 2) (pv 3) pe_dnewK rfl)
        (pss_one (ps_for (passes_of rfl) rfl (pi_list (pv 1)) (pg_name (i := 4) nd rfl (Or.inl rfl))
          (pss_one (ps_dput hu (pe_dget hu (pv 2) (pv 3) (fun _ _ => rfl)) (pv 4) (pe_meth (E := E) (pv 0) S.cl m4 G4 hr b4 .nil (passes_call (W := fun cls d _ H => E cls d H) (takes_of rfl rfl rfl rfl) (fun _ _ _ _ z => z)) (pa_cons pe_int pa_nil)) rfl))))))))
      (pss_one (ps_ret (pe_tup (pa_cons (pv 2) (pa_cons (pv 1) pa_nil)))))))))), ?_⟩
    refine ⟨by show 0 ≤ sizeLine; decide, fun u nu => ?_⟩
    have eu := Ex.new (o := .lst []) nu
    have ua : u ≠ a := (ne_of_none h.at_ nu).symm
    have ul : u ≠ l := (ne_of_none h.ls nu).symm
    refine ⟨fun μ σ H' => ∃ (us1 : List Str) (prev : Str) (i : Nat), TkU C a dx l u H ww μ σ H' us1 prev i,
      ⟨_, [], "", 0, rfl, rfl, fun b o hb _ => eu _ _ hb, upd_same, h.ex eu, (gU_nil _).symm, rfl, fun _ => rfl, fun z => absurd rfl z⟩, fun μ σ H' hW => ?_⟩
    obtain ⟨us1, prev, i, rfl, rfl, bt, hu1, hw, ew, len, p0, p1⟩ := hW
    refine ⟨_, rfl, a, dx, _, rfl, hw.at_, rfl, a, dx, l, ww, i, rfl, hw, ?_⟩
    by_cases hc : ww[i]? = some (":" : Str)
    · rw [now_some hc]
      refine ⟨rfl, _, rfl, ?_⟩
      have z : (!decide (V.str (":" : Str) = V.str (":" : Str))) = false := by rw [decide_eq_true rfl]; rfl
      rw [z]
      have ei : usesEnd "" 0 ww = .inr (us1, ww.drop (i + 1)) := by
        rw [ew, uses_col hc]
        show Sum.inr (us1 ++ [], _) = _
        rw [List.append_nil]
      have nod : us1.Nodup := (uses_facts ei).2.nod
      have du : due ww = match rowsAt us1.length ww true "" (i + 1) with
          | .inl k => .inl k
          | .inr rs => .inr (us1, rs) := by
        rw [due_at, ei, ← len]
        rfl
      refine ⟨_, rfl, a, dx, _, rfl, hw.at_, rfl, by show 1 ≤ sizeLine; decide, fun c nc => ?_⟩
      have ec := Ex.new (o := .tup [V.str ":"]) nc
      refine ⟨a, dx, l, c, ww, i, ":", rfl, hw.ex ec, upd_same, fun _ => ?_, fun n => absurd hc n⟩
      have hw2 := (hw.ex ec).go (j := i + 1) (lt_up hc)
      have hu2 : upd (upd H' c (.tup [V.str ":"])) a (WdO C dx l (i + 1)) u = some (.lst (us1.map V.str)) := by
        rw [upd_ne ua]
        exact ec _ _ hu1
      have bt2 : ButX a H (upd (upd H' c (.tup [V.str ":"])) a (WdO C dx l (i + 1))) := fun b o hb ne => by
        rw [upd_ne ne]
        exact ec _ _ (bt b o hb ne)
      generalize upd (upd H' c (.tup [V.str ":"])) a (WdO C dx l (i + 1)) = H2 at hw2 hu2 bt2 ⊢
      intro dR nR2
      have eR := Ex.new (o := .dK []) nR2
      have Rnew : ∀ b o, H b = some o → b ≠ a → b ≠ dR := fun b o hb ne => ne_of_none (bt2 b o hb ne) nR2
      have Ra : dR ≠ a := (ne_of_none hw2.at_ nR2).symm
      have nR : H dR = none := by
        cases e : H dR with
        | none => rfl
        | some o => exact absurd rfl (Rnew dR o e Ra)
      have kE : ∀ k, rowsAt us1.length ww true "" (i + 1) = .inl k → ∀ d H', ButX a H H' → H' d = some (.xd (badF k)) → E (.ref CB) (some d) H' := fun k hk => q2 k (by rw [du, hk])
      refine ⟨fun μ σ H' => ∃ (Tb : Tab) (rs : Rws) (src : Str) (i2 : Nat) (o4 : Option V), TkR C a dx l u dR H ww us1 (i + 1) μ σ H' Tb rs src i2 o4,
        ⟨_, [], [], "", i + 1, none, rfl, rfl, fun b o hb ne => eR _ _ (bt2 b o hb ne), eR _ _ hu2, hw2.ex eR, ⟨upd_same, fun t ht => nomatch ht⟩, List.nodup_nil, rfl, (gR_nil _).symm, (fun t ht => nomatch ht), Nat.zero_le _⟩, fun μ σ H4 hW => ?_⟩
      obtain ⟨Tb, rs, src, i2, o4, rfl, rfl, bt4, hu4, hw4, hT4, nodA, tab, er, up, few⟩ := hW
      refine ⟨_, rfl, a, dx, _, rfl, hw4.at_, rfl, a, dx, l, ww, i2, rfl, hw4, by show 2 ≤ sizeLine; decide, fun t nt => ?_⟩
      have et := Ex.new (o := .tup [V.non, V.str "|"]) nt
      have fl : flatV (nowV ww i2) = true := by
        unfold nowV
        cases ww[i2]? <;> rfl
      refine ⟨t, [.non, .str "|"], rfl, .inr (SqT.of upd_same), fl, rfl, _, rfl, ?_⟩
      rw [if_pos rfl]
      have bt5 : ButX a H (upd H4 t (.tup [V.non, V.str "|"])) := fun b o hb ne => et _ _ (bt4 b o hb ne)
      have hu5 := et _ _ hu4
      have hw5 := hw4.ex et
      have hT5 := hT4.ex et
      generalize upd H4 t (.tup [V.non, V.str "|"]) = H5 at bt5 hu5 hw5 hT5 ⊢
      cases e : ww[i2]? with
      | none =>
        rw [now_none e]
        have il : ww.length ≤ i2 := List.getElem?_eq_none_iff.mp e
        have il2 : i2 = ww.length := by
          have := hw5.le
          omega
        refine ⟨_, rfl, _, rfl, by show 2 ≤ sizeLine; decide, fun tt ntt => ?_⟩
        have ett := Ex.new (o := .tup [V.ref dR, V.ref u]) ntt
        rw [rA_end il] at er
        have er' : rowsAt us1.length ww true "" (i + 1) = .inr rs := by
          rw [er]
          show Sum.inr (rs ++ []) = _
          rw [List.append_nil]
        refine q1 us1 rs (by rw [du, er']) tt dR u Tb _ (fun b o hb ne => ett _ _ (bt5 b o hb ne)) upd_same (hT5.ex ett) nodA tab (ett _ _ hu5) ?_
        rw [← il2]
        exact hw5.ex ett
      | some x =>
        rw [now_some e]
        have hi := lt_up e
        have nb : inV (.str x) [.non, .str "|"] = false := by
          show (eqV .non (.str x) || (eqV (.str "|") (.str x) || false)) = false
          have : x ≠ ("|" : Str) := fun z => no (by rw [← z]; exact List.mem_of_getElem? e)
          show (false || (decide (("|" : Str) = x) || false)) = false
          rw [decide_eq_false this.symm]
          rfl
        rw [nb]
        refine ⟨fun σ' H6 => ∃ m', m' < ww.length - i2 ∧ ∃ (Tb : Tab) (rs : Rws) (src : Str) (i2 : Nat) (o4 : Option V), TkR C a dx l u dR H ww us1 (i + 1) m' σ' H6 Tb rs src i2 o4, fun _ _ z => z, ?_⟩
        have emp : (Tb.map fun t => ((Sum.inr t.1 : Key), V.ref t.2.1)).isEmpty = rs.isEmpty := by
          have lt := congrArg List.length tab
          unfold tabOf at lt
          rw [List.length_map, List.length_map] at lt
          rw [List.isEmpty_map]
          cases Tb with
          | nil =>
            cases rs with
            | nil => rfl
            | cons r rs => exact absurd lt (by simp)
          | cons r Tb =>
            cases rs with
            | nil => exact absurd lt (by simp)
            | cons r rs => rfl
        refine ⟨_, rfl, !rs.isEmpty, .inr (.inr ⟨_, hT5.at_, by rw [emp]⟩), ?_⟩
        have turn : ∀ (j : Nat) (H6 : Hp), (j = if rs.isEmpty = true then i2 else i2 + 1) → (rs.isEmpty = true ∨ ww[i2]? = some (";" : Str)) → ButX a H5 H6 → WdAt C H6 a dx l ww j → _ := fun j H6 ej hc bt6 hw6 =>
          row_turn (K := K) (C := C) (CB := CB) (E := E) (D := { nx := fun σ' H6 => ∃ m', m' < ww.length - i2 ∧ ∃ (Tb : Tab) (rs : Rws) (src : Str) (i2 : Nat) (o4 : Option V), TkR C a dx l u dR H ww us1 (i + 1) m' σ' H6 Tb rs src i2 o4, rt := Q }) (o4 := o4) hi ej hc (fun b o hb ne => bt6 _ _ (bt5 b o hb ne) ne) (bt6 _ _ hu5 ua) hw6 ⟨bt6 _ _ hT5.at_ Ra, fun t ht => bt6 _ _ (hT5.row t ht) (ne_of (hT5.row t ht) hw5.at_ fun z => nomatch z)⟩ nodA tab er up few nu nR nod
            (fun m σ2 H7 T2 rs2 src2 i3 o42 lt T2' => ⟨m, lt, T2, rs2, src2, i3, o42, T2'⟩) kE
        cases er0 : rs.isEmpty with
        | true => exact turn i2 H5 (by rw [er0, if_pos rfl]) (.inl er0) (fun b o hb _ => hb) hw5
        | false =>
          refine ⟨_, rfl, a, dx, _, rfl, hw5.at_, rfl, by show 1 ≤ sizeLine; decide, fun c2 nc2 => ?_⟩
          have ec2 := Ex.new (o := .tup [V.str ";"]) nc2
          refine ⟨a, dx, l, c2, ww, i2, ";", rfl, hw5.ex ec2, upd_same, fun hs => ?_, fun hs d H6 e6 hd6 => ?_⟩
          · exact turn (i2 + 1) _ (by rw [er0, if_neg Bool.false_ne_true]) (.inr hs) (fun b o hb ne => by rw [upd_ne ne]; exact ec2 _ _ hb) ((hw5.ex ec2).go hi)
          · exact kE i2 (by rw [er, er0, rA_semi hi hs]; rfl) d H6 (fun b o hb ne => e6 _ _ (ec2 _ _ (bt5 b o hb ne))) hd6
    · have dc : (!decide (nowV ww i = V.str ":")) = true := by
        cases e : ww[i]? with
        | none => rw [now_none e]; rfl
        | some x =>
          rw [now_some e, decide_eq_false fun z => hc (by rw [e, V.str.inj z])]
          rfl
      have sc : scal (nowV ww i) (V.str ":") = true := by
        cases e : ww[i]? with
        | none => rw [now_none e]; rfl
        | some x => rw [now_some e]; rfl
      refine ⟨sc, _, rfl, ?_⟩
      rw [dc]
      refine ⟨fun σ' H2 => ∃ m', m' < ww.length - i ∧ ∃ (us1 : List Str) (prev : Str) (i : Nat), TkU C a dx l u H ww m' σ' H2 us1 prev i, fun _ _ z => z, ?_⟩
      refine ⟨_, rfl, Or.inl ⟨rfl, _, SqL.of hu1⟩, ?_⟩
      refine ⟨_, rfl, a, dx, _, rfl, hw.at_, rfl, g_last (K := K) rfl hu1 p0 p1 ?_⟩
      refine ⟨a, dx, l, ww, i, prev, rfl, hw, fun x hx => ?_, fun hn d H2 e2 hd2 => q2 i (by rw [due_at, ew, uses_bad hc hn]; rfl) d H2 (fun b o hb ne => e2 _ _ (bt b o hb ne)) hd2⟩
      obtain ⟨ex, ox⟩ := nowN_some hx
      have hu2 : upd H' a (WdO C dx l (i + 1)) u = some (.lst (us1.map V.str)) := by
        rw [upd_ne ua]
        exact hu1
      have hw2 := hw.go (j := i + 1) (lt_up ex)
      refine ⟨u, _, _, rfl, rfl, hu2, by rw [List.length_map, len, sizeLine_eq]; have := hw.few; have := hw.le; omega, ww.length - (i + 1), by have := lt_up ex; omega, us1 ++ [x], x, i + 1, rfl, rfl, fun b o hb ne => ?_, by rw [upd_same, List.map_append]; rfl, ⟨by rw [upd_ne ua.symm]; exact hw2.at_, by rw [upd_ne ul.symm]; exact hw2.ls, hw2.le, hw2.few, hw2.fine⟩, by rw [ew, uses_go hc hx, gU_gU], by rw [List.length_append, len]; rfl, fun z => absurd z (by simp), fun _ => by simp⟩
      rw [upd_ne (ne_of_none hb nu), upd_ne ne]
      exact bt b o hb ne
end
end Wd

set_option Elab.async false
set_option linter.all false
set_option maxRecDepth 100000
set_option maxHeartbeats 4000000
/-! Words(..). -/
namespace Wd
open PySem PySem.NumText PySem.Spec PyProof.Rows L2 EvP Cm Fk
open Dg hiding numT
def spWInit (K : PySem.W.Frag) (C CB : Addr) : Sp := fun vs H Q E => ∃ (x dx : Addr) (v : V), vs = [.ref x, v] ∧ H x = some (.ins C dx []) ∧
  ((∃ z, v = .str z ∧ z.length ≤ 9000 ∧ ∀ l H', ButX x H H' → WdAt C H' x dx l (ws z) 0 → Q .non H') ∨
   (∃ t, TyX K H v t ∧ PySem.W.kitOne K t (.type "str") = some false ∧ ∀ d H', ButX x H H' → H' d = some (.xd (badF 0)) → E (.ref CB) (some d) H'))
theorem scWInit : FnScope ["self", "text"] ["self", "text"] (defScope (wmeth 0)) := ⟨rfl, rfl, rfl, by decide +kernel, rfl, by decide +kernel, by decide +kernel⟩
section
variable {P : Program} {w : World} {K : PySem.W.Frag} {mg : Str → Option Value} {base : Heap} {C CB f fI f1 f2 f3 f4 : Addr} {fd fdI fd1 fd2 fd3 fd4 : FuncData} {dvs : List V}
theorem ok_winit (F : Fun K "__init__" "Words.__init__" (wmeth 0) f fd) (S : WdC K C) (T : Fk.Blt mg) (L : BadC P w K mg base CB fI fdI) : FnOk P w K mg base (L2.CX P w) 3 f fd ["self", "text"] (spWInit K C CB) := by
  have nd := scWInit.nd
  refine F.okX scWInit (fun vs H Q E h => ?_) (fun cdv A outer s H vs Q E hr h => ?_)
  · obtain ⟨x, dx, v, rfl, _⟩ := h
    rfl
  · obtain ⟨x, dx, v, rfl, hx, h⟩ := h
    refine ⟨_, pss_cons (ps_if (pt_not (pt_val (pe_callB call_isi (by rfl) T.isi (by decide +kernel) (pa_cons (pv 1) (pa_cons (pe_bltn (v := .ty "str") (by rfl) T.str (by decide +kernel) rfl) pa_nil)))))
        (pss_one (ps_raise (W := fun cls d _ H => E cls d H) rfl (takes_of rfl rfl rfl rfl) (pmk_oex (CX := CX0) L.T L.iC L.tI L.G (hr.mono (by decide)) L.b .nil pass0 (by rfl) L.g (pa_cons pe_int (pa_cons pe_int pa_nil))))) pss_nil)
      (pss_cons (ps_fld (pv 0) (pe_split (pv 1) pe_str) rfl) (pss_one (ps_fld (pv 0) pe_int rfl))), ?_⟩
    rcases h with ⟨z, rfl, hz, q⟩ | ⟨t, ty, kt, q⟩
    · refine ⟨_, rfl, _, _, _, _, true, rfl, .ty _, .base (.str z), kit_ty (by decide +kernel), _, rfl, ?_⟩
      refine ⟨_, rfl, ⟨_, rfl⟩, z, " ", rfl, rfl, rfl, by rw [sizeLine_eq]; omega, fun l hl => ?_⟩
      have xl : x ≠ l := ne_of_none hx hl
      refine ⟨_, rfl, x, C, dx, [], rfl, by rw [upd_ne xl]; exact hx, S.cl, S.nW, by show 0 < 1000; decide, ?_⟩
      refine ⟨_, rfl, x, C, dx, _, rfl, upd_same, S.cl, S.nA, by show 1 < 1000; decide, q l _ (fun b o hb ne => ?_) ⟨upd_same, ?_, Nat.zero_le _, ?_, fun p hp => ?_⟩⟩
      · rw [upd_ne ne, upd_ne ne, upd_ne (ne_of_none hb hl)]
        exact hb
      · rw [upd_ne xl.symm, upd_ne xl.symm]
        exact upd_same
      · rw [ws_len]
        have := List.count_le_length (a := 32) (l := tl z)
        rw [len_cps] at this
        omega
      · have := (ws_mem hp).2.1
        omega
    · refine ⟨_, rfl, _, _, _, _, false, rfl, .ty _, ty, kt, _, rfl, ?_⟩
      exact raise_bad (k := 0) L EvP.cst fun d H' e hd => q d H' (fun b o hb _ => e _ _ hb) hd
end
end Wd

set_option Elab.async false
set_option linter.all false
set_option maxRecDepth 100000
set_option maxHeartbeats 4000000
/-! cls(..), C.m(..), C.m(k = v) where the def keeps its promise while no object is being shown, and may raise. -/
namespace XG
open PySem PySem.Spec PyProof.Rows L2
section
variable {X : Cx} {k i : Nat} {x : Str} {f C p : Addr} {fd : FuncData} {ps ks : List Str} {mc : Value} {sp : Sp} {E : XK} {o e : Expr} {es : List Expr} {m : Str} {pos apos np : Pos} {ta : TE} {t tk : TA} {pl : Sem Bool} {kws : List Keyword} {gg : List Value → List Value → List Value} {gV : List V → List V → List V}
/-- cls(..), a local name -/
def tMakeVX (i : Nat) (C : Addr) (sp : Sp) (E : XK) (t : TA) : TE := fun σ H Q => σ[i]? = some (some (.ref C)) ∧ tMakeGX C sp E t σ H Q
theorem pe_makeVX (M : Mk X.K C f) (F : FnG X.prog X.w X.K X.mg X.base (L2.CX X.prog X.w) k f fd ps sp) (len : ∀ vs H Q E, sp vs H Q E → vs.length = ps.length) (gd : X.A.guards = some []) (hr : Room (k + 1) X.A) (hb : Binds X.K fd ps []) (hx : ∀ σ, PassesAt (L2.CX X.prog X.w) X σ E)
    (hN : X.N[i]? = some x) (hv : Vis X.env.scope x) (ha : PA X (e :: es) t) (hd : (x == ("__debug__" : Str)) = false := by decide) (hcd : (x == ("__classdict__" : Str)) = false := by decide)
    (he : starEach (e :: es) X.env = (false, eval e X.env) :: starEach es X.env := by rfl) (hpl : (backTo pos (starEach es X.env)).any (·.1) = false := by rfl) : PE X (.Call (.Name x np) (e :: es) [] pos) (tMakeVX i C sp E t) := by
  refine ⟨fun pins s σ H Q I h => ?_⟩
  obtain ⟨hs, h⟩ := h
  refine wpAny_Call_Name_kw (thn ((pe_var (pos := np) (i := i) hN hv hd hcd).run pins s σ H (fun v H1 => v = .ref C ∧ H1 = H) I ⟨.ref C, hs, rfl, rfl⟩) fun u s1 ⟨v, H1, I1, r1, ev, eH⟩ => ?_)
  subst ev
  rw [eH] at I1
  cases r1
  exact PySem.W.callWith_K (h₀ := X.base) I.ok.mod.kin M.kp (thn (ha.run pos pins s1 σ H _ I1 h) fun us s2 ⟨vs, H2, I2, r, q⟩ => ⟨I2.kIn, run_makeGX M F len gd hr hb hx I2 r q⟩) he hpl
/-- C.m(..) -/
theorem run_cmGX {σ : L2.St} {H : Hp} {s : Shared} {pins : List (Addr × Obj)} {q : Addr} {Q : VK} {us : List Value} {vs : List V} (F : FnG X.prog X.w X.K X.mg X.base (L2.CX X.prog X.w) k f fd ps sp) (len : ∀ vs H Q E, sp vs H Q E → vs.length = ps.length) (gd : X.A.guards = some []) (hr : Room k X.A) (hb : Binds X.K fd ps []) (hx : ∀ σ, PassesAt (L2.CX X.prog X.w) X σ E)
    (I : Inv X ((q, PySem.W.methodObj (.ref f) (.ref C)) :: pins) σ H s) (r : Vals vs us) (h : sp (.ref C :: vs) H Q E) : wpAny (model X.prog X.w) X.A (call (.ref q) us) (EP X pins σ Q) X.xe s := by
  have rr : Vals (V.ref C :: vs) (Value.ref C :: us ++ []) := by rw [List.append_nil]; exact .cons rfl r
  have n : (Value.ref C :: us ++ []).length = ps.length := by rw [← rr.length]; exact len _ _ _ _ h
  have z : wpAny (model X.prog X.w) X.A (call (.ref q) us) (EP X ((q, PySem.W.methodObj (.ref f) (.ref C)) :: pins) σ Q) X.xe s := by
    refine wpAny_call (PySem.W.method_call (ClX.pin_at I) (codeAny_mono (F X.A X.stack s H ⟨Value.ref C :: us, []⟩ (Value.ref C :: us ++ []) (V.ref C :: vs) Q E gd hr I.env0 (hb s (Value.ref C :: us) I.kIn n) rr h) fun r s' hq => ?_))
    cases r with
    | error e => exact hx σ _ H s e s' I hq
    | ok fl =>
      cases fl with
      | ret u => exact I.after hq
      | next => exact False.elim hq
      | brk => exact False.elim hq
      | cont => exact False.elim hq
  exact thn z fun _ _ y => ClX.unpinE y
theorem pe_cmGX (he : PE X o ta) (r : ClX.CRead X.K C mc) (c : ClX.CMet X.K C mc m p f) (F : FnG X.prog X.w X.K X.mg X.base (L2.CX X.prog X.w) k f fd ps sp) (len : ∀ vs H Q E, sp vs H Q E → vs.length = ps.length) (gd : X.A.guards = some []) (hr : Room k X.A) (hb : Binds X.K fd ps []) (hx : ∀ σ, PassesAt (L2.CX X.prog X.w) X σ E) (ha : PA X (e :: es) t)
    (hst : starEach (e :: es) X.env = (false, eval e X.env) :: starEach es X.env := by rfl) (hpl : (backTo pos (starEach es X.env)).any (·.1) = false := by rfl)
    (ht : eval (.Call (.Attribute o m apos) (e :: es) [] pos) X.env = (do
      let ov ← eval o X.env
      standAt apos.atName
      let (f, first) ← holding [ov] (getMethod ov m pl)
      callWith pos f first (backTo pos (starEach (e :: es) X.env)) (backToKw pos (keywordEach [] X.env))) := by rfl) :
    PE X (.Call (.Attribute o m apos) (e :: es) [] pos) (ClX.tCMeth C sp E ta t) := by
  refine ⟨fun pins s σ H Q I h => ?_⟩
  refine PySem.W.methodCall_KW (pl := pl) (thn (he.run pins s σ H _ I h) fun u s1 ⟨x, H1, I1, rx, ex, q⟩ => ?_) ht
  subst ex
  obtain rfl : u = Value.ref C := rx
  refine ClX.getmethcm_ok I1 r c fun s2 I2 => ?_
  refine ClX.callwith_cm I2 (ClX.base_none I1 (Nat.le_refl _)) c.fi (thn (ha.run pos _ s2 σ H1 _ I2 q) fun us s3 ⟨vs, H2, I3, rv, q2⟩ => ⟨⟨ClX.pin_at I3, I3.kIn⟩, ?_⟩) hst hpl
  exact run_cmGX F len gd hr hb hx I3 rv q2
/-- C.m(k = v) -/
def tCMethK (C : Addr) (sp : Sp) (gV : List V → List V → List V) (E : XK) (ta : TE) (tk : TA) : TE := fun σ H Q => ta σ H fun x H1 => x = .ref C ∧ tk σ H1 fun zs H2 => sp (gV [.ref C] zs) H2 Q E
theorem run_cmKGX {σ : L2.St} {H : Hp} {s : Shared} {pins : List (Addr × Obj)} {q : Addr} {Q : VK} {ws : List Value} {zs : List V} (F : FnG X.prog X.w X.K X.mg X.base (L2.CX X.prog X.w) k f fd ps sp) (len : ∀ vs H Q E, sp vs H Q E → vs.length = ps.length) (gd : X.A.guards = some []) (hr : Room k X.A) (hb : KBinds X.K fd ps ks gg gV) (hx : ∀ σ, PassesAt (L2.CX X.prog X.w) X σ E)
    (I : Inv X ((q, PySem.W.methodObj (.ref f) (.ref C)) :: pins) σ H s) (r : Vals zs ws) (h : sp (gV [.ref C] zs) H Q E) : wpAny (model X.prog X.w) X.A (call (.ref q) [] (ks.zip ws)) (EP X pins σ Q) X.xe s := by
  have r2 := hb.rel (vs := [.ref C]) (us := [.ref C]) (.cons rfl .nil) r
  have hl : (gg [.ref C] ws).length = ps.length := by rw [← r2.length]; exact len _ _ _ _ h
  have z : wpAny (model X.prog X.w) X.A (call (.ref q) [] (ks.zip ws)) (EP X ((q, PySem.W.methodObj (.ref f) (.ref C)) :: pins) σ Q) X.xe s := by
    refine wpAny_call (PySem.W.method_call (ClX.pin_at I) (codeAny_mono (F X.A X.stack s H ⟨[.ref C], ks.zip ws⟩ (gg [.ref C] ws) (gV [.ref C] zs) Q E gd hr I.env0 (hb.to s [.ref C] ws I.kIn hl) r2 h) fun r s' hq => ?_))
    cases r with
    | error e => exact hx σ _ H s e s' I hq
    | ok fl =>
      cases fl with
      | ret u => exact I.after hq
      | next => exact False.elim hq
      | brk => exact False.elim hq
      | cont => exact False.elim hq
  exact thn z fun _ _ y => ClX.unpinE y
theorem pe_cmKGX (he : PE X o ta) (r : ClX.CRead X.K C mc) (c : ClX.CMet X.K C mc m p f) (F : FnG X.prog X.w X.K X.mg X.base (L2.CX X.prog X.w) k f fd ps sp) (len : ∀ vs H Q E, sp vs H Q E → vs.length = ps.length) (gd : X.A.guards = some []) (hr : Room k X.A) (hb : KBinds X.K fd ps ks gg gV) (hx : ∀ σ, PassesAt (L2.CX X.prog X.w) X σ E) (hkw : PK X kws tk)
    (hall : (backToKw pos (keywordEach kws X.env)).all (·.1.isSome) = true := by rfl) (hks : (backToKw pos (keywordEach kws X.env)).filterMap (·.1) = ks := by rfl)
    (hpl : ((backTo pos (starEach [] X.env)).any (·.1) || (backToKw pos (keywordEach kws X.env)).any (·.1.isNone)) = false := by rfl)
    (ht : eval (.Call (.Attribute o m apos) [] kws pos) X.env = (do
      let ov ← eval o X.env
      standAt apos.atName
      let (f, first) ← holding [ov] (getMethod ov m pl)
      callWith pos f first (backTo pos (starEach [] X.env)) (backToKw pos (keywordEach kws X.env))) := by rfl) :
    PE X (.Call (.Attribute o m apos) [] kws pos) (tCMethK C sp gV E ta tk) := by
  refine ⟨fun pins s σ H Q I h => ?_⟩
  refine PySem.W.methodCall_KW (pl := pl) (thn (he.run pins s σ H _ I h) fun u s1 ⟨x, H1, I1, rx, ex, q⟩ => ?_) ht
  subst ex
  obtain rfl : u = Value.ref C := rx
  refine ClX.getmethcm_ok I1 r c fun s2 I2 => ?_
  refine PySem.W.callWith_of (P := PySem.W.MethP X.K s1.heap.objs.size f (.ref C)) hpl (PySem.W.keeps_M c.fi) (PyProof.Rows.evalArgs_kw2_nil hall (thn (hkw.run pos _ s2 σ H1 _ I2 q) fun ws s3 ⟨zs, H2, I3, rz, q2⟩ => ⟨⟨ClX.pin_at I3, I3.kIn⟩, ?_⟩))
  show wpAny _ X.A (call (.ref _) [] _) _ _ _
  rw [hks]
  exact run_cmKGX F len gd hr hb hx I3 rz q2
end
end XG

set_option Elab.async false
set_option linter.all false
set_option maxRecDepth 100000
set_option maxHeartbeats 4000000
/-! Table.read. -/
namespace Wd
open PySem PySem.NumText PySem.Spec PyProof.Rows L2 EvP Cm Fk
open Dg hiding numT
open DtE (TRow)
open Tb (Tab TabAt TabOk rowsO usesOf namesOf worths wrow TblAt manyF ManyC spTIX)
/-- names in their order are sorted -/
theorem srt_up {prev : Str} {ns : List Str} (u : Up prev ns) : srt ns = ns :=
  List.Perm.eq_of_pairwise (le := leS) (fun _ _ _ _ h k => leS_anti h k) (srt_pairwise ns) ((List.pairwise_cons.mp u.2).2.imp fun {a b} h => List.le_of_lt h) (srt_perm ns)
/-- the worths above 0 -/
def wOf (us : List Str) (rs : Rws) : TRow := (tabOf us rs).flatMap fun p => wrow p.1 p.2
theorem rw_len {n : Nat} {prev : Str} : ∀ {first : Bool} {rs : Rws}, RwOk n prev rs → (rw first rs).length + (if first = true ∧ rs ≠ [] then 1 else 0) = rs.length * (n + 2)
  | first, [], _ => by
    rw [if_neg fun z => z.2 rfl]
    show 0 + 0 = 0 * _
    omega
  | first, t :: rs, h => by
    have ih := rw_len (first := false) (rs := rs) (n := n) (prev := t.1) ⟨by have := h.up; exact (Up.head this).2, fun t' ht => h.row t' (.tail _ ht)⟩
    rw [if_neg fun z => Bool.false_ne_true z.1] at ih
    have l := (h.row t (.head _)).1
    have e : rw first (t :: rs) = (if first = true then [] else [(";" : Str)]) ++ (t.1 :: t.2.map numT) ++ rw false rs := rfl
    rw [e, List.length_append, List.length_append, List.length_cons, List.length_map, l, List.length_cons, Nat.succ_mul, ← ih]
    cases first with
    | true =>
      rw [if_pos rfl, if_pos ⟨rfl, List.cons_ne_nil _ _⟩]
      show 0 + _ + _ + 1 = _
      omega
    | false =>
      rw [if_neg Bool.false_ne_true, if_neg fun z => Bool.false_ne_true z.1]
      show 1 + _ + _ + 0 = _
      omega
theorem tbl_few {us : List Str} {rs : Rws} (h : RwOk us.length "" rs) (hl : (tblW us rs).length ≤ 62) : us.length + us.length * rs.length ≤ 62 ∧ rs.length ≤ 31 ∧ (rs ≠ [] → us.length ≤ 31) := by
  have l := rw_len (first := true) h
  unfold tblW at hl
  rw [List.length_append, List.length_cons] at hl
  by_cases e : rs = []
  · subst e
    refine ⟨?_, by show 0 ≤ 31; omega, fun z => absurd rfl z⟩
    show us.length + us.length * 0 ≤ 62
    omega
  · rw [if_pos ⟨rfl, e⟩] at l
    have p : 1 ≤ rs.length := List.length_pos_iff.mpr e
    have m1 : rs.length * (us.length + 2) = us.length * rs.length + 2 * rs.length := by rw [Nat.mul_add, Nat.mul_comm, Nat.mul_comm rs.length 2]
    have m2 : us.length * 1 ≤ us.length * rs.length := Nat.mul_le_mul_left _ p
    refine ⟨by omega, by omega, fun _ => by omega⟩
structure TxT (z : Str) : Prop where
  len : z.length ≤ 9000
  few : (ws z).length ≤ 62
  bar : ("|" : Str) ∉ ws z
def spTRead (K : PySem.W.Frag) (C CB CT : Addr) : Sp := fun vs H Q E => ∃ v : V, vs = [.ref C, v] ∧
  ((∃ z, v = .str z ∧ TxT z ∧ (∀ k, due (ws z) = .inl k → ∀ d H', Ex H H' → H' d = some (.xd (badF k)) → E (.ref CB) (some d) H') ∧
     (∀ us rs, due (ws z) = .inr (us, rs) → (6 < rs.length → ∀ d H', Ex H H' → H' d = some (.xd (manyF "sources")) → E (.ref CT) (some d) H') ∧ (rs.length ≤ 6 → 6 < us.length → ∀ d H', Ex H H' → H' d = some (.xd (manyF "uses")) → E (.ref CT) (some d) H') ∧
       (rs.length ≤ 6 → us.length ≤ 6 → ∀ b H', Ex H H' → TblAt C H' b (rs.map (·.1)) us (wOf us rs) → Q (.ref b) H'))) ∨
   (∃ t, TyX K H v t ∧ (∀ H', Ex H H' → TyX K H' v t) ∧ PySem.W.kitOne K t (.type "str") = some false ∧ ∀ d H', Ex H H' → H' d = some (.xd (badF 0)) → E (.ref CB) (some d) H'))
theorem spTRead_len {K : PySem.W.Frag} {C CB CT : Addr} : ∀ vs H Q E, spTRead K C CB CT vs H Q E → vs.length = (["cls", "text"] : List Str).length := fun vs H Q E h => by
  obtain ⟨v, rfl, _⟩ := h
  rfl
def sTRead : Stmt := match top 34 with
  | .ClassDef _ _ _ body _ _ _ _ _ _ _ => body.getD 25 (.Pass ⟨0, 0, 0, 0⟩)
  | _ => .Pass ⟨0, 0, 0, 0⟩
def NTR : List Str := ["cls", "text", "words", "rows", "uses"]
theorem scTRead : FnScope NTR ["cls", "text"] (defScope sTRead) := ⟨rfl, rfl, rfl, by decide +kernel, rfl, by decide +kernel, by decide +kernel⟩
/-- the table that take_rows makes -/
theorem tab_facts {us : List Str} {rs : Rws} {T : Tab} (hu : Up "" us) (h : RwOk us.length "" rs) (hl : (tblW us rs).length ≤ 62) (nodA : (T.map (·.2.1)).Nodup) (tab : T.map (fun t => (t.1, t.2.2)) = tabOf us rs) :
    TabOk T ∧ T.length = rs.length ∧ T.map (·.1) = rs.map (·.1) ∧ usesOf us T = us ∧ worths T = wOf us rs ∧ us.length + (namesOf T).length ≤ 1000 := by
  obtain ⟨f1, f2, f3⟩ := tbl_few h hl
  have lt : T.length = rs.length := by
    have := congrArg List.length tab
    unfold tabOf at this
    rw [List.length_map, List.length_map] at this
    exact this
  have n1 : T.map (·.1) = rs.map (·.1) := by
    have := congrArg (List.map (·.1)) tab
    unfold tabOf at this
    rw [List.map_map, List.map_map] at this
    exact this
  have row : ∀ t ∈ T, ∃ r ∈ rs, t.1 = r.1 ∧ t.2.2 = us.zip r.2 := fun t ht => by
    have m : (t.1, t.2.2) ∈ tabOf us rs := by rw [← tab]; exact List.mem_map_of_mem (f := fun t : Str × Addr × Fk.Row => (t.1, t.2.2)) ht
    unfold tabOf at m
    obtain ⟨r, hr, e⟩ := List.mem_map.mp m
    exact ⟨r, hr, (congrArg Prod.fst e).symm, (congrArg Prod.snd e).symm⟩
  have zf : ∀ r ∈ rs, (us.zip r.2).map (·.1) = us := fun r hr => by
    rw [List.map_fst_zip]
    rw [(h.row r hr).1]
    exact Nat.le_refl _
  have ok : TabOk T := by
    refine ⟨by rw [n1]; exact h.up.nod, nodA, fun t ht => ?_, fun t ht => ?_, by rw [lt]; exact f2⟩
    · have m : t.1 ∈ rs.map (·.1) := by rw [← n1]; exact List.mem_map_of_mem (f := (·.1)) ht
      have b := h.up.1 _ m
      exact ⟨t.1, rfl, by have := name_len b; rw [sizeLine_eq]; omega, b⟩
    · obtain ⟨r, hr, _, e⟩ := row t ht
      rw [e, zf r hr]
      refine ⟨hu.nod, fun p hp => ?_, ?_⟩
      · have m := List.of_mem_zip (show (p.1, p.2) ∈ _ from hp)
        have b := hu.1 _ m.1
        exact ⟨⟨p.1, rfl, by have := name_len b; rw [sizeLine_eq]; omega, b⟩, (h.row r hr).2 _ m.2⟩
      · rw [List.length_zip, (h.row r hr).1, Nat.min_self]
        exact f3 fun z => by rw [z] at hr; cases hr
  refine ⟨ok, lt, n1, ?_, ?_, ?_⟩
  · have nm : ∀ y ∈ namesOf T, y ∈ us := fun y hy => by
      unfold Tb.namesOf at hy
      obtain ⟨t, ht, hy⟩ := List.mem_flatMap.mp hy
      obtain ⟨r, hr, _, e⟩ := row t ht
      rw [e, zf r hr] at hy
      exact hy
    unfold usesOf Tb.firsts
    rw [List.foldl_append, K06.firsts_nod us [] hu.nod, List.nil_append, K06.firsts_in _ _ nm, srt_up hu]
  · unfold worths wOf
    rw [← tab, List.flatMap_map]
  · have ln : ∀ S : Tab, (∀ t ∈ S, t ∈ T) → (namesOf S).length = us.length * S.length := fun S => by
      induction S with
      | nil => intro _; rfl
      | cons t S ih =>
        intro hS
        obtain ⟨r, hr, _, e⟩ := row t (hS t (.head _))
        have ih' := ih fun t' ht' => hS t' (.tail _ ht')
        unfold Tb.namesOf at ih' ⊢
        rw [List.flatMap_cons, List.length_append, ih', e, zf r hr, List.length_cons, Nat.mul_succ]
        omega
    rw [ln T (fun _ h => h), lt]
    omega
section
variable {P : Program} {w : World} {K : PySem.W.Frag} {mg : Str → Option Value} {base : Heap} {C CW CB CT f fI f1 f2 f3 f4 fE : Addr} {fd fdI fd1 fd2 fd3 fd4 fdE : FuncData}
theorem ok_tread (F : Fun K "read" "Table.read" sTRead f fd) (S : WdC K CW) (MW : Mk K CW f1) (G1 : FnOk P w K mg base (L2.CX P w) 3 f1 fd1 ["self", "text"] (spWInit K CW CB)) (b1 : Binds K fd1 ["self", "text"] []) (gW : mg "Words" = some (.ref CW))
    (G2 : FnOk P w K mg base (L2.CX P w) 5 f2 fd2 ["words"] (spTake CW CB)) (b2 : Binds K fd2 ["words"] []) (g2 : mg "take_rows" = some (.ref f2)) (k2 : PySem.W.keepIn K (.ref f2) = true)
    (m3 : Meth K CW "take_end" f3) (G3 : FnOk P w K mg base (L2.CX P w) 3 f3 fd3 ["self"] (spTEnd CW CB)) (b3 : Binds K fd3 ["self"] [])
    (M : Mk K C f4) (G4 : XG.FnG P w K mg base (L2.CX P w) 5 f4 fd4 ["self", "rows", "uses"] (spTIX K C CT)) (b4 : Binds K fd4 ["self", "rows", "uses"] []) : XG.FnG P w K mg base (L2.CX P w) 7 f fd ["cls", "text"] (spTRead K C CB CT) := by
  have nd := scTRead.nd
  refine XG.Fun.okGX F scTRead spTRead_len fun cdv A outer s H vs Q E gd hr h => ?_
  obtain ⟨v, rfl, h⟩ := h
  refine ⟨_, pss_cons (ps_set (i := 2) nd rfl (Or.inl rfl) (pe_make (E := E) MW G1 (hr.mono (by decide)) (by rfl) gW b1 .nil (passes_call (W := fun cls d _ H => E cls d H) (takes_of rfl rfl rfl rfl) (fun _ _ _ _ z => z)) (pa_cons (pv 1) pa_nil)))
    (pss_cons (ps_asg (pe_call (E := E) G2 (hr.mono (by decide)) (by rfl) g2 k2 b2 .nil (passes_call (W := fun cls d _ H => E cls d H) (takes_of rfl rfl rfl rfl) (fun _ _ _ _ z => z)) (pa_cons (pv 2) pa_nil)) (pg_tup rfl (pgs_cons (pg_name (i := 3) nd rfl (Or.inl rfl)) (pgs_cons (pg_name (i := 4) nd rfl (Or.inl rfl)) pgs_nil))))
    (pss_cons (ps_expr (pe_meth0 (E := E) (pv 2) S.cl m3 G3 (hr.mono (by decide)) b3 .nil (passes_call (W := fun cls d _ H => E cls d H) (takes_of rfl rfl rfl rfl) (fun _ _ _ _ z => z))))
    (pss_one (ps_ret (XG.pe_makeVX (i := 0) (E := E) M G4 Tb.spTIX_len gd hr b4 (fun σ => passAt (W := fun cls d _ H => E cls d H) (takes_of rfl rfl rfl rfl) σ) rfl (Or.inl rfl) (pa_cons (pv 3) (pa_cons (pv 4) pa_nil))))))), ?_⟩
  refine ⟨_, rfl, fun x dx hx hdx ne => ?_⟩
  have e1 : Ex H (upd (upd H dx (.own x)) x (.ins CW dx [])) := fun b o hb => by
    rw [upd_ne (ne_of_none hb hx), upd_ne (ne_of_none hb hdx)]
    exact hb
  have noX : ∀ {H2}, ButX x (upd (upd H dx (.own x)) x (.ins CW dx [])) H2 → Ex H H2 := fun bt b o hb => bt b o (e1 b o hb) (ne_of_none hb hx)
  rcases h with ⟨z, rfl, tz, q1, q2⟩ | ⟨t, _, ty, kt, q⟩
  · refine ⟨x, dx, .str z, rfl, upd_same, .inl ⟨z, rfl, tz.len, fun l H1 bt1 h1 => ⟨rfl, ?_⟩⟩⟩
    have eA := noX bt1
    refine ⟨_, rfl, x, dx, l, ws z, rfl, h1, tz.bar, fun us rs hd t d u T H2 bt2 ht hT nodA tab hu h2 => ?_, fun k hk d H2 bt2 hd2 => q1 k hk d H2 (fun b o hb => bt2 b o (eA b o hb) (ne_of_none hb hx)) hd2⟩
    have e2 : Ex H H2 := fun b o hb => bt2 b o (eA b o hb) (ne_of_none hb hx)
    refine ⟨t, _, rfl, SqT.of ht, rfl, _, _, rfl, _, _, rfl, rfl, ?_⟩
    refine ⟨_, rfl, x, dx, _, rfl, h2.at_, rfl, x, dx, l, ws z, _, rfl, h2, fun _ => ?_, fun n => absurd rfl n⟩
    obtain ⟨w1, w2, w3⟩ := due_facts hd
    obtain ⟨p1, p2, p3, p4, p5, p6⟩ := tab_facts w2 w3 (by rw [← w1]; exact tz.few) nodA tab
    obtain ⟨r1, r2, r3⟩ := q2 us rs hd
    have up3 : ∀ {b o b2 db2 : Addr} {o2 : HO} {Cc : Addr}, True := trivial
    refine ⟨rfl, _, rfl, _, rfl, fun y dy hy hdy ney => ?_⟩
    have e3 : Ex H2 (upd (upd H2 dy (.own y)) y (.ins C dy [])) := fun b o hb => by
      rw [upd_ne (ne_of_none hb hy), upd_ne (ne_of_none hb hdy)]
      exact hb
    have noY : ∀ {H4}, Tb.ButX y (upd (upd H2 dy (.own y)) y (.ins C dy [])) H4 → Ex H H4 := fun bt b o hb => bt b o (e3 b o (e2 b o hb)) (ne_of_none (e2 b o hb) hy)
    refine ⟨y, d, u, dy, T, us, rfl, upd_same, hT.ex e3, p1, .inl (SqL.of (e3 _ _ hu)), fun n hn => ?_, p6, fun c dd H4 bt hd4 => r1 (by rw [← p2]; exact c) dd H4 (noY bt) hd4, fun c1 c2 dd H4 bt hd4 => r2 (by rw [← p2]; exact c1) (by rw [p4] at c2; exact c2) dd H4 (noY bt) hd4, fun c1 c2 H4 bt tb => ⟨rfl, ?_⟩⟩
    · have b := w2.1 n hn
      exact ⟨n, rfl, by have := name_len b; rw [sizeLine_eq]; omega, b⟩
    · rw [p4, p5, p3, srt_up w3.up] at tb
      exact r3 (by rw [← p2]; exact c1) (by rw [p4] at c2; exact c2) y H4 (noY bt) tb
  · refine ⟨x, dx, v, rfl, upd_same, .inr ⟨t, ty _ e1, kt, fun d H' bt hd => q d H' (noX bt) hd⟩⟩
end
end Wd

set_option Elab.async false
set_option linter.all false
set_option maxRecDepth 100000
set_option maxHeartbeats 4000000
set_option autoImplicit false
/-! The text of a table, as its words joined. -/
namespace Wd
open PySem PySem.NumText PySem.Spec Fk
open Dg hiding numT
open DtE (TRow lookT)
open Tb (key2 wk tblT rowsT rowT rowW)
/-- a row's words, joined -/
def rowJ (t : Str × List Int) : Str := Txt.join sp (t.1 :: t.2.map numT)
/-- rows behind words: each with its sign ahead -/
theorem join_rows : ∀ (rs : Rws) (A : List Str), Txt.join sp (A ++ rs.map fun t => Txt.join sp ((";" : Str) :: t.1 :: t.2.map numT)) = Txt.join sp (A ++ rw false rs)
  | [], A => by
    show Txt.join sp (A ++ []) = Txt.join sp (A ++ [])
    rfl
  | t :: rs, A => by
    have e : rw false (t :: rs) = ((";" : Str) :: t.1 :: t.2.map numT) ++ rw false rs := rfl
    rw [List.map_cons, join_nest (List.cons_ne_nil _ _), join_rows rs, e, List.append_assoc]
/-- what the table's own text says -/
theorem tbl_text {us : List Str} {rs : Rws} {r : TRow} (n : (rs.map (·.1)).Nodup) (h : ∀ t ∈ rs, us.map (fun u => numT (wk r (key2 t.1 u))) = t.2.map numT) : tblT (rs.map (·.1)) us r = Txt.join sp (tblW us rs) := by
  unfold tblT tblW
  cases rs with
  | nil => rfl
  | cons t0 rs =>
    have hr : rowsT ((t0 :: rs).map (·.1)) us r = Txt.join sp (t0.1 :: t0.2.map numT) :: rs.map fun t => Txt.join sp ((";" : Str) :: t.1 :: t.2.map numT) := by
      unfold rowsT
      rw [List.map_map, List.map_cons]
      have hd : ∀ s : Str, ((t0 :: rs).map (·.1)).headD s = t0.1 := fun s => rfl
      congr 1
      · show rowT _ t0.1 us r = _
        rw [hd]
        unfold rowT rowW
        rw [if_pos rfl, h t0 (.head _)]
      · refine List.map_congr_left fun t ht => ?_
        show rowT _ t.1 us r = _
        rw [hd]
        have ne : ¬ t.1 = t0.1 := fun z => (List.nodup_cons.mp n).1 (by
          have m := List.mem_map_of_mem (f := fun x : Str × List Int => x.1) ht
          have m : t.1 ∈ rs.map (·.1) := m
          rw [z] at m
          exact m)
        unfold rowT rowW
        rw [if_neg ne, h t (.tail _ ht)]
    rw [hr]
    have e : rw true (t0 :: rs) = (t0.1 :: t0.2.map numT) ++ rw false rs := rfl
    show Txt.join sp (us ++ (":" : Str) :: _) = _
    rw [show us ++ (":" : Str) :: (Txt.join sp (t0.1 :: t0.2.map numT) :: rs.map fun t => Txt.join sp ((";" : Str) :: t.1 :: t.2.map numT)) = (us ++ [(":" : Str)]) ++ Txt.join sp (t0.1 :: t0.2.map numT) :: (rs.map fun t => Txt.join sp ((";" : Str) :: t.1 :: t.2.map numT)) by simp, join_nest (List.cons_ne_nil _ _), join_rows, e]
    congr 1
    simp
theorem rw_ne (t : Str × List Int) (rs : Rws) : rw true (t :: rs) ≠ [] := fun z => by
  have : rw true (t :: rs) = (t.1 :: t.2.map numT) ++ rw false rs := rfl
  rw [this] at z
  exact absurd z (by simp)
abbrev semi : Str := " ; "
/-- rows joined by the sign -/
theorem join_semi : ∀ (t : Str × List Int) (rs : Rws), Txt.join semi ((t :: rs).map rowJ) = Txt.join sp (rw true (t :: rs))
  | t, [] => by
    rw [TL.join_eq]
    show rowJ t = Txt.join sp ((t.1 :: t.2.map numT) ++ [])
    rw [List.append_nil]
    rfl
  | t, t2 :: rs => by
    have ih := join_semi t2 rs
    have e : rw true (t :: t2 :: rs) = (t.1 :: t.2.map numT) ++ ([(";" : Str)] ++ rw true (t2 :: rs)) := rfl
    have s1 : Txt.join semi ((t :: t2 :: rs).map rowJ) = rowJ t ++ semi ++ Txt.join semi ((t2 :: rs).map rowJ) := by
      rw [TL.join_eq, TL.join_eq]
      rfl
    rw [s1, e, join_app (List.cons_ne_nil _ _) (by simp), join_app (A := [(";" : Str)]) (B := rw true (t2 :: rs)) (by simp) (rw_ne t2 rs), ← ih, join_one]
    show rowJ t ++ semi ++ Txt.join semi ((t2 :: rs).map rowJ) = rowJ t ++ sp ++ ((";" : Str) ++ sp ++ Txt.join semi ((t2 :: rs).map rowJ))
    refine Dg.ext ?_
    simp only [app_cps]
    show _ ++ ([32, 59, 32] : List Nat) ++ _ = _ ++ ([32] : List Nat) ++ (([59] : List Nat) ++ ([32] : List Nat) ++ _)
    simp
/-- the law's text of a table -/
theorem law_text (us : List Str) (rs : Rws) : Txt.join sp ((us ++ [(":" : Str)]) ++ if rs = [] then [] else [Txt.join semi (rs.map rowJ)]) = Txt.join sp (tblW us rs) := by
  unfold tblW
  cases rs with
  | nil =>
    rw [if_pos rfl]
    show Txt.join sp (us ++ [(":" : Str)] ++ []) = Txt.join sp (us ++ (":" : Str) :: [])
    rw [List.append_nil]
  | cons t rs =>
    rw [if_neg (List.cons_ne_nil _ _), join_semi, join_nest (B := rw true (t :: rs)) (C := []) (rw_ne t rs)]
    congr 1
    simp
/-- the rows of a plain table, in their order -/
def rsP (ss xs : List Str) (r : TRow) : Rws := (srt ss).map fun s => (s, (srt xs).map fun u => wk r (key2 s u))
theorem up_srt {ns : List Str} (h : K06.NamesOk ns) : Up "" (srt ns) := by
  have nm : ∀ n ∈ srt ns, nameB n = true := fun n hn => by
    obtain ⟨y, ey, _, hb⟩ := h.nm n ((srt_perm ns).mem_iff.mp hn)
    cases ey
    exact hb
  have nod : (srt ns).Nodup := (srt_perm ns).nodup_iff.mpr h.nod
  refine ⟨nm, List.pairwise_cons.mpr ⟨fun b hb => ?_, ((srt_pairwise ns).and nod).imp fun {a b} ⟨l, ne⟩ => ?_⟩⟩
  · have := nm b hb
    show ([] : List Nat) < tl b
    cases e : tl b with
    | nil =>
      have : b = "" := Dg.ext e
      have hb2 := nm b hb
      rw [this] at hb2
      exact absurd hb2 (by decide +kernel)
    | cons c r => exact List.nil_lt_cons _ _
  · rcases List.le_iff_lt_or_eq.mp l with z | z
    · exact z
    · exact absurd (Dg.ext z) ne
theorem nodup_key {α β : Type} : ∀ {l : List (α × β)} {a b : α × β}, (l.map (·.1)).Nodup → a ∈ l → b ∈ l → a.1 = b.1 → a = b
  | [], _, _, _, h, _, _ => by cases h
  | x :: l, a, b, n, ha, hb, e => by
    rw [List.map_cons, List.nodup_cons] at n
    rcases List.mem_cons.mp ha with ha1 | ha1 <;> rcases List.mem_cons.mp hb with hb1 | hb1
    · rw [ha1, hb1]
    · exact absurd (List.mem_map.mpr ⟨b, hb1, by rw [← e, ha1]⟩) n.1
    · exact absurd (List.mem_map.mpr ⟨a, ha1, by rw [e, hb1]⟩) n.1
    · exact nodup_key n.2 ha1 hb1 e
theorem rsP_len {ss xs : List Str} {r : TRow} (hs : K06.NamesOk ss) (hx : K06.NamesOk xs) (nn : ∀ k, 0 ≤ wk r k) : RwOk (srt xs).length "" (rsP ss xs r) := by
  have e1 : (rsP ss xs r).map (·.1) = srt ss := by
    unfold rsP
    rw [List.map_map]
    exact List.map_id _
  refine ⟨by rw [e1]; exact up_srt hs, fun t ht => ?_⟩
  unfold rsP at ht
  obtain ⟨s, _, rfl⟩ := List.mem_map.mp ht
  refine ⟨List.length_map .., fun v hv => ?_⟩
  obtain ⟨u, _, rfl⟩ := List.mem_map.mp hv
  exact nn _
theorem rsP_names {ss xs : List Str} {r : TRow} : (rsP ss xs r).map (·.1) = srt ss := by
  unfold rsP
  rw [List.map_map]
  exact List.map_id _
/-- the text of a plain table -/
theorem plain_text {ss xs : List Str} {r : TRow} (hs : K06.NamesOk ss) : tblT (srt ss) (srt xs) r = Txt.join sp (tblW (srt xs) (rsP ss xs r)) := by
  have e := tbl_text (us := srt xs) (rs := rsP ss xs r) (r := r) (by rw [rsP_names]; exact (srt_perm ss).nodup_iff.mpr hs.nod) (fun t ht => by
    unfold rsP at ht
    obtain ⟨s, _, rfl⟩ := List.mem_map.mp ht
    show _ = ((srt xs).map fun u => wk r (key2 s u)).map numT
    rw [List.map_map]
    rfl)
  rw [rsP_names] at e
  exact e
/-- the worths of what was read -/
theorem wk_of {us : List Str} {rs : Rws} (hu : Up "" us) (h : RwOk us.length "" rs) (hl : (tblW us rs).length ≤ 62) {t : Str × List Int} (ht : t ∈ rs) {e : Str × Int} (he : e ∈ us.zip t.2) : wk (wOf us rs) (key2 t.1 e.1) = e.2 := by
  let T : Tb.Tab := rs.zipIdx.map fun p => (p.1.1, p.2, us.zip p.1.2)
  have nodA : (T.map (·.2.1)).Nodup := by
    show ((rs.zipIdx.map fun p => (p.1.1, p.2, us.zip p.1.2)).map (·.2.1)).Nodup
    rw [List.map_map]
    show (rs.zipIdx.map (·.2)).Nodup
    rw [List.zipIdx_map_snd]
    exact List.nodup_range'
  have tab : T.map (fun t => (t.1, t.2.2)) = tabOf us rs := by
    show (rs.zipIdx.map fun p => (p.1.1, p.2, us.zip p.1.2)).map (fun t => (t.1, t.2.2)) = _
    rw [List.map_map]
    unfold tabOf
    conv => rhs; rw [← List.zipIdx_map_fst 0 rs]
    rw [List.map_map]
    rfl
  obtain ⟨ok, _, _, _, ew, _⟩ := tab_facts hu h hl nodA tab
  have mt : (t.1, us.zip t.2) ∈ T.map (fun t => (t.1, t.2.2)) := by
    rw [tab]
    exact List.mem_map_of_mem (f := fun t : Str × List Int => (t.1, us.zip t.2)) ht
  obtain ⟨t', ht', et⟩ := List.mem_map.mp mt
  have et1 : t'.1 = t.1 := congrArg Prod.fst et
  have et2 : t'.2.2 = us.zip t.2 := congrArg Prod.snd et
  have he' : e ∈ t'.2.2 := by rw [et2]; exact he
  rw [← ew, ← et1]
  have nn := ((ok.row t' ht').2.1 e he').2
  unfold wk
  by_cases c : 0 < e.2
  · rw [(K06.look_mem (Tb.worths_nod ok)).mpr (show (key2 t'.1 e.1, e.2) ∈ Tb.worths T from List.mem_flatMap.mpr ⟨t', ht', List.mem_map.mpr ⟨e, List.mem_filter.mpr ⟨he', decide_eq_true c⟩, rfl⟩⟩)]
    rfl
  · cases hq : lookT (Tb.worths T) (key2 t'.1 e.1) with
    | none =>
      show (0 : Int) = e.2
      omega
    | some n =>
      exfalso
      obtain ⟨t2, ht2, e2, he2, p2, z⟩ := Tb.mem_worths ((K06.look_mem (Tb.worths_nod ok)).mp hq)
      obtain ⟨z1, z2⟩ := Tb.key2_inj (congrArg Prod.fst z)
      have tt : t' = t2 := nodup_key ok.nod ht' ht2 z1
      subst tt
      have ee : e = e2 := nodup_key (ok.row t' ht').1 he' he2 z2
      subst ee
      exact c p2
end Wd

set_option Elab.async false
set_option linter.all false
set_option maxRecDepth 100000
set_option maxHeartbeats 4000000
/-! _law_names; tables by the worth of each pair; defs of the top that keep promises. -/
namespace K06
open PySem PySem.Spec PyProof.Rows L2 Cm LamX
open DtE (TRow tents lookT sameT)
open Tb (key2 PairK wk TblAt TblC TblI Tab TabAt spTEq spTItem firsts manyF tblT rowsT rowT rowW Wks spTStr)
open Fk (NameV nameB srt srt_perm)
open EvP (Ex All2 is Gives lst)
/-- worths above 0 of pairs of these names -/
structure GoodR (ss xs : List Str) (r : TRow) : Prop where
  nod : (r.map (·.1)).Nodup
  key : ∀ t ∈ r, ∃ a ∈ ss, ∃ x ∈ xs, t.1 = key2 a x
  pos : ∀ t ∈ r, 0 < t.2
theorem GoodR.look {ss xs : List Str} {r : TRow} (g : GoodR ss xs r) (k : List Key) : lookT r k = if 0 < wk r k then some (wk r k) else none := by
  unfold wk
  cases h : lookT r k with
  | none => rfl
  | some n =>
    have p := g.pos _ ((look_mem g.nod).mp h)
    show some n = if 0 < n then some n else none
    rw [if_pos p]
theorem GoodR.nn {ss xs : List Str} {r : TRow} (g : GoodR ss xs r) (k : List Key) : 0 ≤ wk r k := by
  unfold wk
  cases h : lookT r k with
  | none => exact Int.le_refl _
  | some n => exact Int.le_of_lt (g.pos _ ((look_mem g.nod).mp h))
theorem GoodR.out {ss xs : List Str} {r : TRow} (g : GoodR ss xs r) {k : List Key} (h : ¬ ∃ a ∈ ss, ∃ x ∈ xs, k = key2 a x) : wk r k = 0 := by
  unfold wk
  cases c : lookT r k with
  | none => rfl
  | some n => exact absurd (g.key _ ((look_mem g.nod).mp c)) h
theorem look_ext {ss xs ss' xs' : List Str} {r r' : TRow} (g : GoodR ss xs r) (g' : GoodR ss' xs' r') (h : ∀ k, wk r k = wk r' k) (k : List Key) : lookT r k = lookT r' k := by
  rw [g.look, g'.look, h]
theorem same_of {ss xs ss' xs' : List Str} {r r' : TRow} (g : GoodR ss xs r) (g' : GoodR ss' xs' r') (h : ∀ k, wk r k = wk r' k) : sameT r r' = true := by
  have e := look_ext g g' h
  have p : (r.map (·.1)).Perm (r'.map (·.1)) := (List.perm_ext_iff_of_nodup g.nod g'.nod).mpr fun k => by
    constructor
    · intro hk
      obtain ⟨t, ht, rfl⟩ := List.mem_map.mp hk
      have := (look_mem g.nod).mpr (show (t.1, t.2) ∈ r from ht)
      rw [e] at this
      exact List.mem_map.mpr ⟨_, (look_mem g'.nod).mp this, rfl⟩
    · intro hk
      obtain ⟨t, ht, rfl⟩ := List.mem_map.mp hk
      have := (look_mem g'.nod).mpr (show (t.1, t.2) ∈ r' from ht)
      rw [← e] at this
      exact List.mem_map.mpr ⟨_, (look_mem g.nod).mp this, rfl⟩
  have l := p.length_eq
  rw [List.length_map, List.length_map] at l
  unfold sameT
  rw [l, beq_self_eq_true, Bool.true_and, List.all_eq_true]
  intro t ht
  have := (look_mem g.nod).mpr (show (t.1, t.2) ∈ r from ht)
  rw [e] at this
  exact decide_eq_true this
abbrev sNms : Stmt := top 42
theorem scNms : FnScope ["names_so", "name"] ["names_so"] (defScope sNms) := ⟨rfl, rfl, rfl, by decide +kernel, rfl, by decide +kernel, by decide +kernel⟩
def spNms : Sp := fun vs H Q _ => ∃ (a : Addr) (ns : List Str), vs = [.ref a] ∧ H a = some (.lst (ns.map V.str)) ∧ ns.length < 64 ∧ ∀ p H', Ex H H' → H' p = some (.lst ((srt ns).map V.str)) → Q (.ref p) H'
theorem ok_str {x : Str} (h : NameV (.str x)) : PyData.strOk x = true := by
  obtain ⟨y, ey, _, hb⟩ := h
  cases ey
  unfold nameB at hb
  simp only [Bool.and_eq_true] at hb
  have a := hb.1.1.2
  unfold Txt.isascii at a
  unfold PyData.strOk
  rw [Array.all_eq_true] at a ⊢
  intro i hi
  have := of_decide_eq_true (a i hi)
  exact decide_eq_true (Nat.lt_trans this (by decide))
section
variable {P : Program} {w : World} {K : PySem.W.Frag} {mg : Str → Option Value} {base : Heap} {f : Addr} {fd : FuncData}
theorem ok_nms (F : Fun K "_law_names" "_law_names" sNms f fd) (T : Fk.Blt mg) (T2 : Fk.Blt2 mg) : FnOk P w K mg base CX0 1 f fd ["names_so"] spNms := by
  have nd := scNms.nd
  refine F.ok scNms (fun vs H Q E h => ?_) (fun cdv A outer s H vs Q E hr h => ?_)
  · obtain ⟨a, ns, rfl, _⟩ := h
    rfl
  · obtain ⟨a, ns, rfl, ha, few, q⟩ := h
    refine ⟨_, pss_one (ps_ret (pe_callB cr_sortedS (by rfl) T2.sorted (by decide +kernel) (pa_cons (pe_lc (own := [("name", 1)]) (g := gName 1) (tt := tYes) rfl nd (pi_list (pv 0)) (blkOk_by (N := ["names_so", "name"]) (sc := defScope sNms) (by decide +kernel))
        (fun _ _ _ _ _ => pg_name (i := 1) nd rfl (Or.inl rfl)) (fun _ _ _ _ _ => pts_nil) (fun _ _ _ _ _ => pe_callTy (T := "str") SkE.call_str_str (by rfl) T.str (by decide +kernel) (pa_cons (pv 1) pa_nil))) pa_nil))), ?_⟩
    have z := comp_is (te := tCB (fun xs H Q => ∃ a, xs = [V.str a] ∧ Q (.str a) H) (tCons (tVar 1) tNil)) (tt := tYes) (i := 1) (vs := [1]) (fun _ => true) id (walks_list (K := K) (EvP.varP (σ := [some (.ref a), none]) (i := 0) (P := lstV (ns.map V.str)) rfl ⟨a, rfl, ha⟩)) (by rw [List.length_map]; omega) (fun _ => rfl) (fun _ _ H2 _ Q h => h) (fun v hv _ => by
      obtain ⟨n, hn, rfl⟩ := List.mem_map.mp hv
      exact fun H1 e1 Q1 q1 => ⟨_, rfl, n, rfl, q1 _ _ (Ex.refl _) rfl⟩)
    rw [List.filter_eq_self.mpr (fun _ _ => rfl), List.map_id] at z
    exact g_sorted z few H (Ex.refl H) _ fun v H1 e1 ⟨p, ev, hp⟩ => by
      subst ev
      exact q p H1 e1 hp
end
theorem NamesOk.perm {A B : List Str} (n : NamesOk A) (p : A.Perm B) : NamesOk B := ⟨p.nodup_iff.mp n.nod, fun x hx => n.nm x (p.mem_iff.mpr hx), by rw [← p.length_eq]; exact n.few⟩
theorem NamesOk.srt {A : List Str} (n : NamesOk A) : NamesOk (srt A) := n.perm (srt_perm A).symm
/-- as Fun, its code object at c -/
structure FunC (K : PySem.W.Frag) (x qual : Str) (st : Stmt) (f c : Addr) (fd : FuncData) : Prop where
  ex : ∃ (oc : Value) (od : Option Addr) (kV doc pm : Value) (an : Option Addr) (ct : Value) (osl : Array (Option Value)),
    fd = PySem.W.fnOf x qual (defArgs st) (defBody st) (defScope st) .none kV doc pm an (.ref c) ct ∧ K.lookup f = some ⟨oc, od, .func fd, osl⟩ ∧ PySem.W.codeIn K (.ref c) qual = true
  kp : PySem.W.keepIn K (.ref f) = true
theorem FunC.okG {P : Program} {w : World} {K : PySem.W.Frag} {mg : Str → Option Value} {base : Heap} {k : Nat} {f c : Addr} {ps : List Str} {sp : Sp} {x qual : Str} {st : Stmt} {fd : FuncData} {N : List Str} (F : FunC K x qual st f c fd) (S : FnScope N ps (defScope st)) (len : ∀ vs H Q E, sp vs H Q E → vs.length = ps.length)
    (walk : ∀ (A : Around) (outer : List Env) (s : Shared) (H : Hp) (vs : List V) (Q : VK) (E : XK), A.guards = some [] → Room k (A.deeper (envOfC qual (defScope st) s.heap.objs.size f (.ref c))) → sp vs H Q E →
      ∃ t, PSs (cxOf CX0 P w K mg base N qual (defScope st) f (.ref c) A outer s H E).nox (defBody st) t ∧ t { nx := fun _ H' => Q .non H', rt := Q } (start N vs) H) : XG.FnG P w K mg base CX0 (k + 1) f fd ps sp := by
  obtain ⟨oc, od, kV, doc, pm, an, ct, osl, rfl, lk, hcd⟩ := F.ex
  refine XG.fnG_of lk hcd S len fun A outer s H vs Q E gd room h => ?_
  obtain ⟨t, a, b⟩ := walk A outer s H vs Q E gd room h
  exact ⟨t, a.nox, b⟩
structure CalD (P : Program) (w : World) (K : PySem.W.Frag) (mg : Str → Option Value) (base : Heap) (k : Nat) (x : Str) (ps : List Str) (sp : Sp) where
  f : Addr
  fd : FuncData
  ok : FnOk P w K mg base CX0 k f fd ps sp
  b : Binds K fd ps []
  g : mg x = some (.ref f)
  kp : PySem.W.keepIn K (.ref f) = true
structure CalG (P : Program) (w : World) (K : PySem.W.Frag) (mg : Str → Option Value) (base : Heap) (k : Nat) (x : Str) (ps : List Str) (sp : Sp) where
  f : Addr
  fd : FuncData
  ok : XG.FnG P w K mg base CX0 k f fd ps sp
  len : ∀ vs H Q E, sp vs H Q E → vs.length = ps.length
  b : Binds K fd ps []
  g : mg x = some (.ref f)
  kp : PySem.W.keepIn K (.ref f) = true
structure CalX (P : Program) (w : World) (K : PySem.W.Frag) (mg : Str → Option Value) (base : Heap) (k : Nat) (x : Str) (ps : List Str) (sp : Sp) where
  f : Addr
  fd : FuncData
  ok : XG.FnG P w K mg base (L2.CX P w) k f fd ps sp
  len : ∀ vs H Q E, sp vs H Q E → vs.length = ps.length
  b : Binds K fd ps []
  g : mg x = some (.ref f)
  kp : PySem.W.keepIn K (.ref f) = true
theorem PlainAt.but {H H' : Hp} {v : V} {ss xs : List Str} {r : TRow} {p q : Addr} {ns : List Int} {s g : Int} (h : PlainAt H v ss xs r) (hP : Pen H p q ns s g) (k : But p H H') : PlainAt H' v ss xs r := by
  obtain ⟨t, a, b, d, h0, h1, h2, h3, h4⟩ := h
  exact ⟨t, a, b, d, h0, k _ _ h1 (ne_of h1 hP.p fun z => nomatch z), k _ _ h2 (strs_ne hP h2), k _ _ h3 (strs_ne hP h3), k _ _ h4 (ne_of h4 hP.p fun z => nomatch z)⟩
theorem Alike.good {ss xs : List Str} {r r' : TRow} (a : Alike r' r) (g : GoodR ss xs r) : GoodR ss xs r' ∧ ∀ k, wk r' k = wk r k := by
  have m : ∀ t ∈ r', t ∈ r := fun t ht => by
    have := (look_mem a.nod).mpr (show (t.1, t.2) ∈ r' from ht)
    rw [a.look] at this
    exact (look_mem g.nod).mp this
  refine ⟨⟨a.nod, fun t ht => g.key t (m t ht), fun t ht => g.pos t (m t ht)⟩, fun k => ?_⟩
  unfold wk
  rw [a.look]
/-- a table over these names, by the worth of each pair -/
structure TabW (C : Addr) (ss xs : List Str) (g : List Key → Int) (v : V) (H : Hp) : Prop where
  ex : ∃ (x : Addr) (r : TRow), v = .ref x ∧ TblAt C H x (srt ss) (srt xs) r ∧ GoodR ss xs r ∧ ∀ k, wk r k = g k
def tabW (C : Addr) (ss xs : List Str) (g : List Key → Int) : EvP.PR := ⟨TabW C ss xs g, fun _ _ _ e h => by
  obtain ⟨x, r, h1, h2, h3, h4⟩ := h.ex
  exact ⟨x, r, h1, h2.mono e, h3, h4⟩⟩
theorem oks_of {ss : List Str} (n : NamesOk ss) : Tb.Oks (srt ss) := fun s hs => ok_str (n.nm s ((srt_perm ss).mem_iff.mp hs))
/-- all but the tables of code stays, also what is no table of code -/
theorem TblAt_N {C x : Addr} {H H' : Hp} {ss xs : List Str} {r : TRow} (e : ExtN H H') (h : TblAt C H x ss xs r) : TblAt C H' x ss xs r := by
  obtain ⟨dx, n1, n2, dw, p, prs, h1, h2, h3, h4, h5, h6⟩ := h
  have all : ∀ {ks : List (List Key)} {vs : List V}, All2 H (ks.map fun k => tupV (k.map kV)) vs → All2 H' (ks.map fun k => tupV (k.map kV)) vs := fun {ks} => by
    induction ks with
    | nil => intro vs h; cases h; exact .nil
    | cons k ks ih =>
      intro vs h
      cases h with
      | cons a t =>
        obtain ⟨b, ev, hb⟩ := a
        exact .cons ⟨b, ev, e _ _ hb (fun ps z => nomatch z)⟩ (ih t)
  exact ⟨dx, n1, n2, dw, p, prs, e _ _ h1 (fun ps z => nomatch z), e _ _ h2 (fun ps z => nomatch z), e _ _ h3 (fun ps z => nomatch z), e _ _ h4 (fun ps z => nomatch z), e _ _ h5 (fun ps z => nomatch z), all h6⟩
theorem TabW_N {C : Addr} {ss xs : List Str} {g : List Key → Int} {v : V} {H H' : Hp} (e : ExtN H H') (h : TabW C ss xs g v H) : TabW C ss xs g v H' := by
  obtain ⟨x, r, h1, h2, h3, h4⟩ := h.ex
  exact ⟨x, r, h1, TblAt_N e h2, h3, h4⟩
theorem PlainAt_N {H H' : Hp} {v : V} {ss xs : List Str} {r : TRow} (e : ExtN H H') (h : PlainAt H v ss xs r) : PlainAt H' v ss xs r := by
  obtain ⟨t, a, b, d, h0, h1, h2, h3, h4⟩ := h.ex
  exact ⟨t, a, b, d, h0, e _ _ h1 (fun ps z => nomatch z), e _ _ h2 (fun ps z => nomatch z), e _ _ h3 (fun ps z => nomatch z), e _ _ h4 (fun ps z => nomatch z)⟩
theorem Pen.N {H H' : Hp} {p q : Addr} {ns : List Int} {s g : Int} (x : Pen H p q ns s g) (e : ExtN H H') : Pen H' p q ns s g := ⟨e _ _ x.p (fun ps z => nomatch z), e _ _ x.q (fun ps z => nomatch z)⟩
theorem Tabs_but {T : List (Addr × Str)} {H H' : Hp} {p : Addr} {xs : List V} (t : Tabs T H) (hp : H p = some (.lst xs)) (k : But p H H') : Tabs T H' := fun x hx => by
  obtain ⟨ps, h1, h2, h3⟩ := t x hx
  refine ⟨ps, k _ _ h1 (ne_of h1 hp fun z => nomatch z), h2, fun pos cv hc => ?_⟩
  obtain ⟨c, e1, e2⟩ := h3 pos cv hc
  exact ⟨c, e1, k _ _ e2 (ne_of e2 hp fun z => by
    unfold CodeO at z
    cases z)⟩
section
variable {K : PySem.W.Frag} {C CT : Addr} {σ : L2.St} {H : Hp} {ta tb te : TE} {ss xs ss' xs' : List Str} {g g' : List Key → Int} {m : Int} {r : TRow} {tt : TT} {P : EvP.PR} {b : Bool}
theorem eq_true {r r' : TRow} (gr : GoodR ss xs r) (gr' : GoodR ss xs r') (h : ∀ k, wk r k = wk r' k) : Tb.eqT (srt ss) (srt xs) (srt ss) (srt xs) r r' = true := by
  unfold Tb.eqT
  rw [decide_eq_true rfl, decide_eq_true rfl, same_of gr gr' h]
  rfl
theorem g_eqT (sN : NamesOk ss) (uN : NamesOk xs) (h : Gives ta σ H (tabW C ss xs g)) (k : Gives tb σ H (tabW C ss xs g')) (e : ∀ k, g k = g' k) : Gives (tOp (Own.rCmpOwn K C (spTEq K C)) ta tb) σ H (is (.bl true)) :=
  g_op h k fun x y H1 _ hx hy Q q => by
    obtain ⟨x, r, rfl, tb, gr, gw⟩ := hx.ex
    obtain ⟨y, r', rfl, tb', gr', gw'⟩ := hy.ex
    refine ⟨Tb.tbl_ins tb, Tb.tbl_ins tb', .inl ⟨x, y, _, _, _, _, r, r', rfl, tb, tb', oks_of sN, oks_of uN, oks_of sN, oks_of uN, ?_⟩⟩
    rw [eq_true gr gr' fun k => by rw [gw, gw', e]]
    exact q _ _ (Ex.refl _) rfl
theorem g_neT (sN : NamesOk ss) (uN : NamesOk xs) (h : Gives ta σ H (tabW C ss xs g)) (k : Gives tb σ H (tabW C ss xs g')) (e : ∀ k, g k = g' k) : Gives (tOp (Own.rNeOwn C (spTEq K C)) ta tb) σ H (is (.bl false)) :=
  g_op h k fun x y H1 _ hx hy Q q => by
    obtain ⟨x, r, rfl, tb, gr, gw⟩ := hx.ex
    obtain ⟨y, r', rfl, tb', gr', gw'⟩ := hy.ex
    refine ⟨Tb.tbl_ins tb, Tb.tbl_ins tb', .inl ⟨x, y, _, _, _, _, r, r', rfl, tb, tb', oks_of sN, oks_of uN, oks_of sN, oks_of uN, true, ?_, ?_⟩⟩
    · rw [eq_true gr gr' fun k => by rw [gw, gw', e]]
    · exact q _ _ (Ex.refl _) rfl
end
theorem tblT_ext {ss xs : List Str} {r r' : TRow} (h : ∀ k, wk r k = wk r' k) : tblT ss xs r = tblT ss xs r' := by
  have e : wk r = wk r' := funext h
  unfold tblT rowsT rowT rowW
  rw [e]
section
variable {K : PySem.W.Frag} {C : Addr} {σ : L2.St} {H : Hp} {ta tb te : TE} {ss xs : List Str} {g g' : List Key → Int} {r : TRow}
/-- str(table) -/
theorem g_strT (sN : NamesOk ss) (uN : NamesOk xs) (h : Gives ta σ H (tabW C ss xs g)) (e : ∀ k, g k = wk r k) (b : ∀ k, 0 ≤ g k ∧ g k < 10 ^ 64) : Gives (tCB (Own.rStrOwn C (spTStr C)) (tCons ta tNil)) σ H (is (.str (tblT (srt ss) (srt xs) r))) :=
  g_call h fun v H1 _ hv Q q => by
    obtain ⟨x, r', rfl, tb, gr, gw⟩ := hv.ex
    have s1 := sN.srt
    have s2 := uN.srt
    refine ⟨_, rfl, Tb.tbl_ins tb, x, srt ss, srt xs, r', rfl, tb, s1.nm, s2.nm, s1.few, s2.few, fun k => by rw [gw]; exact b k, fun H' e' => ⟨_, rfl, q _ _ e' ?_⟩⟩
    exact congrArg V.str (tblT_ext fun k => by rw [gw, e])
end
end K06

set_option Elab.async false
set_option linter.all false
set_option maxRecDepth 100000
set_option maxHeartbeats 4000000
/-! try: .. except X as n: ..; except ..: only the first clause is met. -/
namespace L2
open PySem PySem.Spec PyProof.Rows
/-- what is wished of an exception of the body: the first clause takes it -/
def wFirst (K : PySem.W.Frag) (c : Value) (i : Nat) (ts : Addr → Value → Option Addr → TS) (D : Ends) : WX := fun cls d σ H =>
  PySem.W.exmOne K cls c = some true ∧ ∀ a, H a = none → ts a cls d { nx := fun _ _ => False, rt := D.rt, bk := fun _ _ => False, ct := fun _ _ => False } (σ.set i (some (.ref a))) H
section
variable {X : Cx} {x n : Str} {c : Value} {i : Nat} {body suite : List Stmt} {b₀ : Stmt} {np pos pos' : Pos} {tb : WX → TS} {ts : Addr → Value → Option Addr → TS} {hds : List ExceptHandler}
theorem ps_try_first (hs : X.stack = X.env :: X.outer) (hf : X.env.frame = some X.env.locals) (hx : X.ex = []) (hN : X.N.Nodup) (hi : X.N[i]? = some n) (hln : X.env.kindOf n = some .local) (hc : Names X x c)
    (hb : ∀ (W : WX) (pn : List (Addr × Obj)) (xe : Value → Shared → Prop), Takes (X.tr pn xe) W → PSs (X.tr pn xe) body (tb W))
    (hsu : ∀ (a : Addr) (oe : Obj) (cls : Value) (d : Option Addr) (pn : List (Addr × Obj)), Zc cls d oe → (∃ vs, oe.data = .fields vs) → PSs (X.suite a ((a, oe) :: pn)) (b₀ :: suite) (ts a cls d)) :
    PS X (.Try body (.ExceptHandler (some (.Name x np)) (some n) (b₀ :: suite) pos' :: hds) [] [] pos) (fun D σ H => tb (wFirst X.K c i ts D) D σ H) :=
  ⟨fun pins s σ H D I h => wpAny_Try_except (by
    refine wpAny_mono ((hb (wFirst X.K c i ts D) (X.pn ++ pins) _ ?takes).run [] s σ H D (I.toTry _) h) (fun f s1 hsp => ?_) (fun _ _ z => z)
    case takes =>
      rintro _ s' ⟨a, B, sI, pins', σ', H', cls, d, rfl, J', nb, up, sky, na, os, ag, hm, hyes⟩
      have J : Inv X pins σ' H' sI := J'.ofTry I.ok
      refine Sky.land Zc.steady (I.ok.frames.trans (congrArg some hs)) hf (by rw [← hs]; exact sky) fun h3 fl3 up3 => ?_
      have L3 := landed_of (s' := s') hs hf hx J nb os ag fl3 (up.trans up3)
      obtain ⟨oe3, vs3, _, _, S3⟩ := L3.suite na
      have look : PySem.W.Looks (model X.prog X.w) h3 (typeOf (.ref a)) cls := fun A Q E s k q => by
        obtain ⟨oe, _, he, hz, _⟩ := L3.obj
        exact wpAny_typeOf_ref (k _ _ he) (by rw [hz.1]; exact q)
      refine wpAny_handleBy_cons (codeAny_handlers_test ?_) nofun
      refine (show ∀ {Q : Value → Shared → Prop} {E : Value → Shared → Prop}, Q c { s' with heap := h3 } → wpAny (model X.prog X.w) (X.A.mark (some (.ref a))) (eval (.Name x np) X.env) Q E { s' with heap := h3 } from fun q => ?name) ((PySem.W.exm_one L3.inv.kIn look hm).here ?_)
      case name =>
        rcases hc with ⟨hg, hd, k | ⟨k1, k2, k3⟩⟩
        · exact ld_glob S3 hg k q hd
        · exact ld_blt S3 hg k1 k2 q k3 hd
      refine codeAny_handlers_suite_as (HandSPX.lands_againZ fl3 fun h4 fl4 up4 => ?_)
      have L4 := landed_of (s' := s') hs hf hx J nb os ag fl4 ((up.trans up3).trans up4)
      obtain ⟨oe4, vs4, hz4, hd4, S4⟩ := L4.suite na
      refine store_ok (X := X.suite a ((a, oe4) :: (X.pn ++ pins))) (v := .ref a) S4 hN hi (.inl hln) rfl (fun s5 S5 => ?_) (.inr hln)
      refine wpAny_mono ((hsu a oe4 cls d (X.pn ++ pins) hz4 ⟨_, hd4⟩).run [] s5 _ H' _ S5 (hyes a na)) (fun f s6 z => ?_) (fun _ _ z => z.elim)
      cases f with
      | ret u =>
        obtain ⟨v, _, _, S6, rv, q⟩ := z
        exact gone_ok (S6.unsuite I.ok) hN hi hln fun s7 J7 => ⟨v, _, _, J7, rv, q⟩
      | next => exact (let ⟨_, _, _, q⟩ := z; q.elim)
      | brk => exact (let ⟨_, _, _, q⟩ := z; q.elim)
      | cont => exact (let ⟨_, _, _, q⟩ := z; q.elim)
    cases f with
    | next => exact (let ⟨_, _, J, q⟩ := hsp; wpAny_execs_nil ⟨_, _, J.ofTry I.ok, q⟩)
    | ret u => exact (let ⟨_, _, _, J, r, q⟩ := hsp; ⟨_, _, _, J.ofTry I.ok, r, q⟩)
    | brk => exact (let ⟨_, _, J, q⟩ := hsp; ⟨_, _, J.ofTry I.ok, q⟩)
    | cont => exact (let ⟨_, _, J, q⟩ := hsp; ⟨_, _, J.ofTry I.ok, q⟩))⟩
end
end L2

set_option Elab.async false
set_option linter.all false
set_option maxRecDepth 100000
set_option maxHeartbeats 4000000
/-! try: .. except X as n: ..; except Y as n: ..; except ..: the first or the second clause is met. -/
namespace L2
open PySem PySem.Spec PyProof.Rows
/-- what is wished of an exception of the body: the first clause takes it, or the second -/
def wTwo (K : PySem.W.Frag) (c c2 : Value) (i : Nat) (ts ts2 : Addr → Value → Option Addr → TS) (D : Ends) : WX := fun cls d σ H =>
  (PySem.W.exmOne K cls c = some true ∧ ∀ a, H a = none → ts a cls d { nx := fun _ _ => False, rt := D.rt, bk := fun _ _ => False, ct := fun _ _ => False } (σ.set i (some (.ref a))) H) ∨
  (PySem.W.exmOne K cls c = some false ∧ PySem.W.exmOne K cls c2 = some true ∧ ∀ a, H a = none → ts2 a cls d { nx := fun _ _ => False, rt := D.rt, bk := fun _ _ => False, ct := fun _ _ => False } (σ.set i (some (.ref a))) H)
section
variable {X : Cx} {x x2 n : Str} {c c2 : Value} {i : Nat} {body suite suite2 : List Stmt} {b₀ b₂ : Stmt} {np np2 pos pos' pos2 : Pos} {tb : WX → TS} {ts ts2 : Addr → Value → Option Addr → TS} {hds : List ExceptHandler}
theorem ps_try_two (hs : X.stack = X.env :: X.outer) (hf : X.env.frame = some X.env.locals) (hx : X.ex = []) (hN : X.N.Nodup) (hi : X.N[i]? = some n) (hln : X.env.kindOf n = some .local) (hc : Names X x c) (hc2 : Names X x2 c2)
    (hb : ∀ (W : WX) (pn : List (Addr × Obj)) (xe : Value → Shared → Prop), Takes (X.tr pn xe) W → PSs (X.tr pn xe) body (tb W))
    (hsu : ∀ (a : Addr) (oe : Obj) (cls : Value) (d : Option Addr) (pn : List (Addr × Obj)), Zc cls d oe → (∃ vs, oe.data = .fields vs) → PSs (X.suite a ((a, oe) :: pn)) (b₀ :: suite) (ts a cls d))
    (hsu2 : ∀ (a : Addr) (oe : Obj) (cls : Value) (d : Option Addr) (pn : List (Addr × Obj)), Zc cls d oe → (∃ vs, oe.data = .fields vs) → PSs (X.suite a ((a, oe) :: pn)) (b₂ :: suite2) (ts2 a cls d)) :
    PS X (.Try body (.ExceptHandler (some (.Name x np)) (some n) (b₀ :: suite) pos' :: .ExceptHandler (some (.Name x2 np2)) (some n) (b₂ :: suite2) pos2 :: hds) [] [] pos) (fun D σ H => tb (wTwo X.K c c2 i ts ts2 D) D σ H) :=
  ⟨fun pins s σ H D I h => wpAny_Try_except (by
    refine wpAny_mono ((hb (wTwo X.K c c2 i ts ts2 D) (X.pn ++ pins) _ ?takes).run [] s σ H D (I.toTry _) h) (fun f s1 hsp => ?_) (fun _ _ z => z)
    case takes =>
      rintro _ s' ⟨a, B, sI, pins', σ', H', cls, d, rfl, J', nb, up, sky, na, os, ag, hw⟩
      have J : Inv X pins σ' H' sI := J'.ofTry I.ok
      refine Sky.land Zc.steady (I.ok.frames.trans (congrArg some hs)) hf (by rw [← hs]; exact sky) fun h3 fl3 up3 => ?_
      have L3 := landed_of (s' := s') hs hf hx J nb os ag fl3 (up.trans up3)
      obtain ⟨oe3, vs3, _, _, S3⟩ := L3.suite na
      have look : PySem.W.Looks (model X.prog X.w) h3 (typeOf (.ref a)) cls := fun A Q E s k q => by
        obtain ⟨oe, _, he, hz, _⟩ := L3.obj
        exact wpAny_typeOf_ref (k _ _ he) (by rw [hz.1]; exact q)
      have name : ∀ {x : Str} {np : Pos} {c : Value}, Names X x c → ∀ {Q : Value → Shared → Prop} {E : Value → Shared → Prop}, Q c { s' with heap := h3 } → wpAny (model X.prog X.w) (X.A.mark (some (.ref a))) (eval (.Name x np) X.env) Q E { s' with heap := h3 } := fun {x np c} hc {Q E} q => by
        rcases hc with ⟨hg, hd, k | ⟨k1, k2, k3⟩⟩
        · exact ld_glob S3 hg k q hd
        · exact ld_blt S3 hg k1 k2 q k3 hd
      rcases hw with ⟨hm, hyes⟩ | ⟨hm1, hm, hyes⟩
      · refine wpAny_handleBy_cons (codeAny_handlers_test ?_) nofun
        refine name hc ((PySem.W.exm_one L3.inv.kIn look hm).here ?_)
        refine codeAny_handlers_suite_as (HandSPX.lands_againZ fl3 fun h4 fl4 up4 => ?_)
        have L4 := landed_of (s' := s') hs hf hx J nb os ag fl4 ((up.trans up3).trans up4)
        obtain ⟨oe4, vs4, hz4, hd4, S4⟩ := L4.suite na
        refine store_ok (X := X.suite a ((a, oe4) :: (X.pn ++ pins))) (v := .ref a) S4 hN hi (.inl hln) rfl (fun s5 S5 => ?_) (.inr hln)
        refine wpAny_mono ((hsu a oe4 cls d (X.pn ++ pins) hz4 ⟨_, hd4⟩).run [] s5 _ H' _ S5 (hyes a na)) (fun f s6 z => ?_) (fun _ _ z => z.elim)
        cases f with
        | ret u =>
          obtain ⟨v, _, _, S6, rv, q⟩ := z
          exact gone_ok (S6.unsuite I.ok) hN hi hln fun s7 J7 => ⟨v, _, _, J7, rv, q⟩
        | next => exact (let ⟨_, _, _, q⟩ := z; q.elim)
        | brk => exact (let ⟨_, _, _, q⟩ := z; q.elim)
        | cont => exact (let ⟨_, _, _, q⟩ := z; q.elim)
      · refine wpAny_handleBy_cons (codeAny_handlers_test ?_) nofun
        refine name hc ((PySem.W.exm_one L3.inv.kIn look hm1).here ?_)
        show wpAny _ X.A (handleBy (.ref a) X.env _) _ _ _
        refine wpAny_handleBy_cons (codeAny_handlers_test ?_) nofun
        refine name hc2 ((PySem.W.exm_one L3.inv.kIn look hm).here ?_)
        refine codeAny_handlers_suite_as (HandSPX.lands_againZ fl3 fun h4 fl4 up4 => ?_)
        have L4 := landed_of (s' := s') hs hf hx J nb os ag fl4 ((up.trans up3).trans up4)
        obtain ⟨oe4, vs4, hz4, hd4, S4⟩ := L4.suite na
        refine store_ok (X := X.suite a ((a, oe4) :: (X.pn ++ pins))) (v := .ref a) S4 hN hi (.inl hln) rfl (fun s5 S5 => ?_) (.inr hln)
        refine wpAny_mono ((hsu2 a oe4 cls d (X.pn ++ pins) hz4 ⟨_, hd4⟩).run [] s5 _ H' _ S5 (hyes a na)) (fun f s6 z => ?_) (fun _ _ z => z.elim)
        cases f with
        | ret u =>
          obtain ⟨v, _, _, S6, rv, q⟩ := z
          exact gone_ok (S6.unsuite I.ok) hN hi hln fun s7 J7 => ⟨v, _, _, J7, rv, q⟩
        | next => exact (let ⟨_, _, _, q⟩ := z; q.elim)
        | brk => exact (let ⟨_, _, _, q⟩ := z; q.elim)
        | cont => exact (let ⟨_, _, _, q⟩ := z; q.elim)
    cases f with
    | next => exact (let ⟨_, _, J, q⟩ := hsp; wpAny_execs_nil ⟨_, _, J.ofTry I.ok, q⟩)
    | ret u => exact (let ⟨_, _, _, J, r, q⟩ := hsp; ⟨_, _, _, J.ofTry I.ok, r, q⟩)
    | brk => exact (let ⟨_, _, J, q⟩ := hsp; ⟨_, _, J.ofTry I.ok, q⟩)
    | cont => exact (let ⟨_, _, J, q⟩ := hsp; ⟨_, _, J.ofTry I.ok, q⟩))⟩
end
end L2

set_option Elab.async false
set_option linter.all false
set_option maxRecDepth 100000
set_option maxHeartbeats 4000000
/-! _law_heard(lambda: Table.read(..)). -/
namespace Wd
open PySem PySem.NumText PySem.Spec PyProof.Rows L2 EvP Cm Fk LamX LamG
open Dg hiding numT
open Tb (manyF TblAt)
abbrev sHeard : Stmt := top 51
abbrev NHd : List Str := ["ask", "error"]
theorem scHeard : FnScope NHd ["ask"] (defScope sHeard) := ⟨rfl, rfl, rfl, by decide +kernel, rfl, by decide +kernel, by decide +kernel⟩
abbrev badT (k : Nat) : List V := [.str "text", .int 0, .int (k : Nat)]
abbrev manyT (s : Str) : List V := [.str "many", .str s, .int 6]
/-- a reading may be told of less -/
theorem pe_less {X : Cx} {e : Expr} {te : TE} (h : PE X e te) : PE X e (fun σ H Q => ∃ Q' : VK, (∀ v H1, Q' v H1 → Q v H1) ∧ te σ H Q') :=
  ⟨fun pins s σ H Q I ⟨Q', hq, ht⟩ => wpAny_mono (h.run pins s σ H Q' I ht) (fun _ _ ⟨v, H1, I1, r, q⟩ => ⟨v, H1, I1, r, hq v H1 q⟩) fun _ _ z => z⟩
/-- what is heard of an ask -/
def THeard (CB CT : Addr) : (XK → Hp → VK → Prop) → Hp → VK → Prop := fun tl H Q =>
  tl (fun cls d H1 => (∃ k dd, cls = .ref CB ∧ d = some dd ∧ H1 dd = some (.xd (badF k)) ∧ ∀ t H2, Ex H1 H2 → H2 t = some (.tup (badT k)) → Q (.ref t) H2) ∨
      (∃ s dd, cls = .ref CT ∧ d = some dd ∧ H1 dd = some (.xd (manyF s)) ∧ ∀ t H2, Ex H1 H2 → H2 t = some (.tup (manyT s)) → Q (.ref t) H2)) H
    (fun v H1 => ∀ p H2, Ex H1 H2 → H2 p = some (.lst [v]) → Q (.ref p) H2)
/-- the classes, as they are caught -/
structure HeardX (K : PySem.W.Frag) (mg : Str → Option Value) (CB CT : Addr) : Prop where
  gB : mg "BadText" = some (.ref CB)
  gT : mg "TooMany" = some (.ref CT)
  te1 : PySem.W.exmOne K (.ref CB) (.ref CB) = some true
  te2 : PySem.W.exmOne K (.ref CT) (.ref CB) = some false
  te3 : PySem.W.exmOne K (.ref CT) (.ref CT) = some true
  XB : XfC K CB
  XT : XfC K CT
  n1 : PySem.W.findIn K (.ref CB) "line" = some none
  n2 : PySem.W.findIn K (.ref CB) "word" = some none
  n3 : PySem.W.findIn K (.ref CT) "what" = some none
  n4 : PySem.W.findIn K (.ref CT) "most" = some none
theorem heard_gives {X : Cx} {q : Str} {g CB CT : Addr} {cdg : Value} (L : HeardX X.K X.mg CB CT) : GivesG X NHd "_law_heard" (defScope sHeard) g cdg (defBody sHeard) "ask" q (THeard CB CT) := by
  have nd := scHeard.nd
  intro f c' s H Q tl act hc h
  refine ⟨_, pss_one (ps_try_two (c := .ref CB) (c2 := .ref CT) (i := 1) (tb := fun W D σ H => ∃ Ech : XK, (∀ cls d (σ' : L2.St) H', σ'.length = 2 → Ech cls d H' → W cls d σ' H') ∧ ∃ Q' : VK, (∀ v H1, Q' v H1 → ∀ p, H1 p = none → D.rt (.ref p) (upd H1 p (.lst [v]))) ∧ σ[0]? = some (some (.ref f)) ∧ H c' = some (CodeO c' q) ∧ tl Ech H Q')
      (ts := fun a cls d => tRet (tTup (tCons (tC (.str "text")) (tCons (tXf a cls d CB "line" (tVar 1)) (tCons (tXf a cls d CB "word" (tVar 1)) tNil)))))
      (ts2 := fun a cls d => tRet (tTup (tCons (tC (.str "many")) (tCons (tXf a cls d CT "what" (tVar 1)) (tCons (tXf a cls d CT "most" (tVar 1)) tNil)))))
      rfl rfl rfl nd rfl rfl ⟨by rfl, by decide, .inl L.gB⟩ ⟨by rfl, by decide, .inl L.gT⟩ (fun W pn xe tk => ?_)
      (fun a oe cls d pn hz hd => pss_one (ps_ret (pe_tup (pa_cons pe_str (pa_cons (pe_xf L.XB L.n1 hz hd (pv 1)) (pa_cons (pe_xf L.XB L.n2 hz hd (pv 1)) pa_nil))))))
      (fun a oe cls d pn hz hd => pss_one (ps_ret (pe_tup (pa_cons pe_str (pa_cons (pe_xf L.XT L.n3 hz hd (pv 1)) (pa_cons (pe_xf L.XT L.n4 hz hd (pv 1)) pa_nil))))))), ?_⟩
  · refine ⟨fun pins s' σ H' D I h' => ?_⟩
    obtain ⟨Ech, hW, Q', hQ, h1, h2, h3⟩ := h'
    have hp := fun p1 p2 => act (fun cls d σ H => σ.length = 2 → W cls d σ H) pn xe Ech p1 p2 (fun u s' ⟨a, B, sI, pins, σ, H, cls, d, e, I, nb, up, sky, na, os, ag, w⟩ => tk u s' ⟨a, B, sI, pins, σ, H, cls, d, e, I, nb, up, sky, na, os, ag, w I.len⟩) (fun cls d σ' H' e l => hW cls d σ' H' l e)
    exact (pss_one (ps_ret (pe_lst (pa_cons (pe_less (hp _ _)) pa_nil)))).run pins s' σ H' D I ⟨Q', fun v H1 z => ⟨by show 1 ≤ sizeLine; decide, fun p hp => hQ v H1 z p hp⟩, h1, h2, h3⟩
  · refine ⟨_, ?_, _, ?_, rfl, hc, h⟩
    · rintro cls d σ' H2 hl z
      obtain ⟨s0, s1, rfl⟩ : ∃ s0 s1, σ' = [s0, s1] := by
        match σ', hl with
        | [s0, s1], _ => exact ⟨s0, s1, rfl⟩
      rcases z with ⟨n, dd, rfl, rfl, hx, k⟩ | ⟨t, dd, rfl, rfl, hx, k⟩
      · exact .inl ⟨L.te1, fun a na => ⟨.ref a, rfl, rfl, rfl, dd, _, .int 0, rfl, hx, rfl, .ref a, rfl, rfl, rfl, dd, _, .int (n : Nat), rfl, hx, rfl, by show 3 ≤ sizeLine; decide, fun p hp => k p _ (Ex.new hp) upd_same⟩⟩
      · exact .inr ⟨L.te2, L.te3, fun a na => ⟨.ref a, rfl, rfl, rfl, dd, _, .str t, rfl, hx, rfl, .ref a, rfl, rfl, rfl, dd, _, .int 6, rfl, hx, rfl, by show 3 ≤ sizeLine; decide, fun p hp => k p _ (Ex.new hp) upd_same⟩⟩
    · intro v H1 z p hp
      exact z p _ (Ex.new hp) upd_same
end Wd

set_option Elab.async false
set_option linter.all false
set_option maxRecDepth 100000
set_option maxHeartbeats 4000000
set_option autoImplicit false
/-! The law's own looks at words. -/
namespace Cm
open PySem PySem.Spec PyProof.Rows L2 EvP
section
variable {σ : L2.St} {H : Hp} {te : TE}
theorem walks_str {x : Str} {ss : List Str} (h : EvP.Gives te σ H (is (.str x))) (e : x.cps.toList.map (fun c => (⟨#[c]⟩ : Str)) = ss) : Walks (iStr te) σ H (ss.map V.str) := fun H1 e1 R r =>
  h H1 e1 _ fun v H2 e2 ev => ⟨x, ev, by
    subst e
    refine r _ _ e2 ⟨fun _ => True, ⟨fun i H hi _ => by
      show i < x.cps.size
      simpa using hi, fun H _ => by simp [Its], fun i H v H' hi _ y => ?_⟩, fun _ _ => trivial⟩
    obtain ⟨rfl, c, hc, rfl⟩ := y
    refine ⟨rfl, ?_⟩
    simp [hc]⟩
end
end Cm
namespace Wd
open PySem PySem.NumText PySem.Spec PyProof.Rows L2 EvP Cm Fk
open Dg hiding numT
theorem dp_strs {K : PySem.W.Frag} {H : Hp} : ∀ ss : List Str, DpAll K H (ss.map V.str) (ss.map PyData.str)
  | [] => .nil
  | s :: r => .cons (.str s) (dp_strs r)
theorem lay_strs : ∀ {ss : List Str}, (∀ s ∈ ss, PyData.strOk s = true) → PyData.canLayAll0 (ss.map PyData.str) = true
  | [], _ => rfl
  | s :: r, h => by
    show (PyData.strOk s && PyData.canLayAll0 (r.map PyData.str)) = true
    rw [h s (.head _), lay_strs fun y hy => h y (.tail _ hy)]
    rfl
theorem depth_strs : ∀ ss : List Str, PyData.depthAll (ss.map PyData.str) = 0
  | [] => rfl
  | s :: r => by
    show max 0 (PyData.depthAll (r.map PyData.str)) = 0
    rw [depth_strs r]
    rfl
theorem shaped_strsL {ss : List Str} (h : ∀ s ∈ ss, PyData.strOk s = true) : SeqAt.shaped (.list (ss.map PyData.str)) = true := by
  show (PyData.canLayAll0 (ss.map PyData.str) && decide (PyData.depthAll (ss.map PyData.str) + 1 ≤ 64)) = true
  rw [lay_strs h, depth_strs]
  rfl
theorem eqv_strs_nil (ss : List Str) : PyData.eqv (.list (ss.map PyData.str)) (.list []) = ss.isEmpty := by
  cases ss <;> rfl
theorem lst_is {H0 : Hp} {vs : List V} {v : V} {H : Hp} (h : (lst H0 (vs.map is)).R v H) : (lstV vs).R v H := by
  obtain ⟨a, ws, e, ha, _, hs⟩ := h
  exact ⟨a, e, by rw [← all2_is hs]; exact ha⟩
section
variable {K : PySem.W.Frag} {σ : L2.St} {H : Hp} {ta tb te : TE}
theorem g_eqNil {ss : List Str} (h : EvP.Gives ta σ H (lstV (ss.map V.str))) (o : ∀ s ∈ ss, PyData.strOk s = true) : EvP.Gives (tOp (rEqD K) ta (tLst tNil)) σ H (is (.bl ss.isEmpty)) :=
  g_op (R := lstV []) h (Fk.Gives.imp (EvP.list (H0 := H) (Ps := ([] : List V).map is) (Ex.refl _) EvP.nil (by show 0 ≤ 1000; decide)) fun v H h => lst_is h) fun x y H1 e ⟨a, ex, ha⟩ ⟨b, ey, hb⟩ Q q => by
    subst ex
    subst ey
    refine ⟨.list (ss.map PyData.str), .list [], .lst (SqL.of ha) (dp_strs _), .lst (SqL.of hb) .nil, shaped_strsL o, rfl, ?_⟩
    rw [eqv_strs_nil]
    exact q _ _ (Ex.refl _) rfl
theorem g_neNil {ss : List Str} (h : EvP.Gives ta σ H (lstV (ss.map V.str))) (o : ∀ s ∈ ss, PyData.strOk s = true) : EvP.Gives (tOp (rNeD K) ta (tLst tNil)) σ H (is (.bl (!ss.isEmpty))) :=
  g_op (R := lstV []) h (Fk.Gives.imp (EvP.list (H0 := H) (Ps := ([] : List V).map is) (Ex.refl _) EvP.nil (by show 0 ≤ 1000; decide)) fun v H h => lst_is h) fun x y H1 e ⟨a, ex, ha⟩ ⟨b, ey, hb⟩ Q q => by
    subst ex
    subst ey
    refine ⟨.list (ss.map PyData.str), .list [], .lst (SqL.of ha) (dp_strs _), .lst (SqL.of hb) .nil, shaped_strsL o, rfl, ?_⟩
    rw [eqv_strs_nil]
    exact q _ _ (Ex.refl _) rfl
end
/-- the signs of a text that f picks -/
def sgs (f : Nat → Bool) (x : Str) : List Str := (tl x).map (fun c => (⟨#[c]⟩ : Str)) |>.filter fun s => f (s.cps.toList.headD 0)
def keepS (f : Nat → Bool) : V → Bool := fun v => match v with
  | .str s => f (s.cps.toList.headD 0)
  | _ => false
theorem sgs_keep (f : Nat → Bool) (x : Str) : ((((tl x).map (fun c => (⟨#[c]⟩ : Str))).map V.str).filter (keepS f)).map id = (sgs f x).map V.str := by
  rw [List.map_id, List.filter_map]
  rfl
theorem sgs_empty (f : Nat → Bool) (x : Str) : (sgs f x).isEmpty = (tl x).all (fun c => !f c) := by
  unfold sgs
  rw [Bool.eq_iff_iff, List.isEmpty_iff, List.filter_eq_nil_iff, List.all_eq_true]
  refine ⟨fun h c hc => ?_, fun h s hs => ?_⟩
  · have := h ⟨#[c]⟩ (List.mem_map_of_mem hc)
    simpa using this
  · obtain ⟨c, hc, rfl⟩ := List.mem_map.mp hs
    have := h c hc
    simpa using this
theorem sgs_ok {f : Nat → Bool} {x : Str} (a : ∀ c ∈ tl x, c < 128) : ∀ s ∈ sgs f x, PyData.strOk s = true := fun s hs => by
  unfold sgs at hs
  obtain ⟨c, hc, rfl⟩ := List.mem_map.mp (List.mem_filter.mp hs).1
  unfold PyData.strOk
  have := a c hc
  simp
  omega
/-- the signs of a word that f picks, read -/
theorem g_sgs {σ : L2.St} {H : Hp} {x : Str} {f : Nat → Bool} {tt : TT} (h0 : σ[0]? = some (some (.str x))) (hl : x.length ≤ 1000) (hv : ∀ y, wipe ((wipe σ [1]).set 1 (some y)) [1] = wipe σ [1]) (h1 : ∀ y, ((wipe σ [1]).set 1 (some y))[1]? = some (some y))
    (ht : ∀ (c : Nat) (H3 : Hp) (Q : Bool → Hp → Prop), Q (f c) H3 → tt ((wipe σ [1]).set 1 (some (.str ⟨#[c]⟩))) H3 Q) :
    EvP.Gives (tLc (iStr (tVar 0)) (gName 1) tt (tVar 1) [1]) σ H (lstV ((sgs f x).map V.str)) := by
  rw [← sgs_keep]
  refine comp_is (keepS f) id (walks_str (EvP.var h0) rfl) (by rw [List.length_map, List.length_map, len_cps]; omega) hv (fun y hy H3 e3 Q h => ?_) (fun y hy _ => EvP.var (h1 y))
  obtain ⟨s, hs, rfl⟩ := List.mem_map.mp hy
  obtain ⟨c, hc, rfl⟩ := List.mem_map.mp hs
  exact ht c H3 Q h
abbrev d9 : Str := "0123456789"
/-- no small letter -/
def offA (c : Nat) : Bool := !(decide (97 ≤ c) && decide (c ≤ 122))
def offD (c : Nat) : Bool := !decide (c ∈ tl d9)
theorem name_az (x : Str) (h1 : 1 ≤ x.length) (h8 : x.length ≤ 8) (hin : inV (.str x) [.str "none", .str "self"] = false) : (tl x).all (fun c => !offA c) = nameB x := by
  have tA : ∀ c, c < 128 → (!offA c) = true → Unicode.isAlpha c = true ∧ Unicode.isLower c = true ∧ (Unicode.isUpper c || Unicode.isTitle c) = false := by decide +kernel
  have tB : ∀ c, c < 128 → Unicode.isAlpha c = true → (Unicode.isUpper c || Unicode.isTitle c) = false → (!offA c) = true := by decide +kernel
  have lt : ∀ c, (!offA c) = true → c < 128 := fun c h => by
    unfold offA at h
    simp at h
    omega
  unfold nameB
  rw [hin, decide_eq_true (by omega), Bool.eq_iff_iff]
  simp only [Bool.true_and, Bool.not_false, Bool.and_eq_true, List.all_eq_true, decide_eq_true_eq]
  unfold Txt.isascii Txt.isalpha Txt.islower
  simp only [Bool.and_eq_true, ← Array.all_toList, ← Array.any_toList, List.all_eq_true, decide_eq_true_eq, Bool.not_eq_true', List.any_eq_false, List.any_eq_true]
  refine ⟨fun h => ⟨⟨fun c hc => lt c (by rw [h c hc]; rfl), by omega, fun c hc => (tA c (lt c (by rw [h c hc]; rfl)) (by rw [h c hc]; rfl)).1⟩, ?_, fun c hc => ?_⟩, fun ⟨⟨a1, _, a2⟩, _, a3⟩ c hc => ?_⟩
  · have : 0 < (tl x).length := by rw [len_cps]; omega
    have m := List.getElem_mem this
    exact ⟨(tl x)[0], m, (tA _ (lt _ (by rw [h _ m]; rfl)) (by rw [h _ m]; rfl)).2.1⟩
  · rw [(tA c (lt c (by rw [h c hc]; rfl)) (by rw [h c hc]; rfl)).2.2]
    exact Bool.false_ne_true
  · have := a3 c hc
    have z := tB c (a1 c hc) (a2 c hc) (by simpa using this)
    simpa using z
theorem off_d9 (c : Nat) : (!offD c) = decide (48 ≤ c ∧ c ≤ 57) := by
  unfold offD
  rw [Bool.not_not, decide_eq_decide]
  show c ∈ [48, 49, 50, 51, 52, 53, 54, 55, 56, 57] ↔ _
  simp only [List.mem_cons, List.not_mem_nil, or_false]
  omega
abbrev sLName : Stmt := top 47
abbrev sLWorth : Stmt := top 48
def spLName : Sp := fun vs H Q _ => ∃ x : Str, vs = [.str x] ∧ x.length ≤ 1000 ∧ (∀ c ∈ tl x, c < 128) ∧ ∀ H', Ex H H' → Q (.bl (nameB x)) H'
def spLWorth : Sp := fun vs H Q _ => ∃ x : Str, vs = [.str x] ∧ x.length ≤ 1000 ∧ (∀ c ∈ tl x, c < 128) ∧ ∀ H', Ex H H' → Q (.bl (numB x)) H'
theorem scLName : FnScope ["word", "letter"] ["word"] (defScope sLName) := ⟨rfl, rfl, rfl, by decide +kernel, rfl, by decide +kernel, by decide +kernel⟩
theorem scLWorth : FnScope ["word", "sign"] ["word"] (defScope sLWorth) := ⟨rfl, rfl, rfl, by decide +kernel, rfl, by decide +kernel, by decide +kernel⟩
theorem lt1 {a b : Nat} : (([a] : List Nat) < [b]) ↔ a < b := by
  rw [List.cons_lt_cons_iff]
  exact ⟨fun h => h.elim id fun z => absurd z.2 (List.lt_irrefl _), .inl⟩
abbrev rLeS : R2 := fun x y H Q => ∃ i j, x = .str i ∧ y = .str j ∧ Q (.bl (!decide (j.cps.toList < i.cps.toList))) H
/-- not 'a' <= letter <= 'z' -/
def tAZ : TT := fun σ H Q => tTest (tChain rLeS rLeS (tC (.str "a")) (tVar 1) (tC (.str "z"))) σ H fun b H1 => Q (!b) H1
theorem t_az {σ : L2.St} {c : Nat} {H : Hp} {Q : Bool → Hp → Prop} (h1 : σ[1]? = some (some (.str ⟨#[c]⟩))) (h : Q (offA c) H) : tAZ σ H Q := by
  refine ⟨_, h1, _, _, rfl, rfl, _, rfl, ?_⟩
  have d1 : (!decide (([c] : List Nat) < [97])) = decide (97 ≤ c) := by
    by_cases k : 97 ≤ c
    · rw [decide_eq_true k, decide_eq_false (fun z => by have := lt1.mp z; omega)]
      rfl
    · rw [decide_eq_false k, decide_eq_true (lt1.mpr (by omega))]
      rfl
  have d2 : (!decide (([122] : List Nat) < [c])) = decide (c ≤ 122) := by
    by_cases k : c ≤ 122
    · rw [decide_eq_true k, decide_eq_false (fun z => by have := lt1.mp z; omega)]
      rfl
    · rw [decide_eq_false k, decide_eq_true (lt1.mpr (by omega))]
      rfl
  show if (!decide (([c] : List Nat) < [97])) = true then _ else _
  rw [d1]
  unfold offA at h
  cases k1 : decide (97 ≤ c) with
  | false =>
    rw [k1] at h
    exact ⟨_, rfl, h⟩
  | true =>
    rw [k1] at h
    refine ⟨_, _, rfl, rfl, _, rfl, ?_⟩
    show Q (!!decide (([122] : List Nat) < [c])) H
    rw [d2]
    exact h
section
variable {P : Program} {w : World} {K : PySem.W.Frag} {mg : Str → Option Value} {base : Heap} {f : Addr} {fd : FuncData}
theorem ok_lname (F : Fun K "_law_is_name" "_law_is_name" sLName f fd) (T : Fk.Blt mg) : FnOk P w K mg base CX0 1 f fd ["word"] spLName := by
  have nd := scLName.nd
  refine F.ok scLName (fun vs H Q E h => ?_) (fun cdv A outer s H vs Q E hr h => ?_)
  · obtain ⟨x, rfl, _⟩ := h
    rfl
  · obtain ⟨x, rfl, hl, ha, q⟩ := h
    refine ⟨_, pss_cons (ps_if (PW.pt (pw_or (pt_not (pt_chain op_le op_le pe_int (pe_callB call_len_str (by rfl) T.len PySem.boot_len (pa_cons (pv 0) pa_nil)) pe_int)) (pw_or1 (pt_cmpR op_in_seq (pv 0) (pe_tup (pa_cons pe_str (pa_cons pe_str pa_nil))) (by rfl))))) (pss_one (ps_ret pe_bl)) pss_nil)
      (pss_one (ps_ret (pe_cmpR (op_eqD hr.units) (pe_lc (own := [("letter", 1)]) (g := gName 1) (tt := tAZ) (te := tVar 1) rfl nd (pi_str (pv 0)) (blkOk_by (N := ["word", "letter"]) (sc := defScope sLName) (by decide +kernel))
        (fun _ _ _ _ _ => pg_name (i := 1) nd rfl (Or.inl rfl)) (fun _ _ _ _ _ => by exact pts_one (pt_not (pt_chain op_le_str op_le_str pe_str (pv 1) pe_str))) (fun _ _ _ _ _ => pv 1)) (pe_lst pa_nil) (nomark _)))), ?_⟩
    have ls : x.length ≤ sizeLine := by rw [sizeLine_eq]; omega
    refine ⟨_, rfl, x, rfl, ls, _, _, rfl, rfl, _, rfl, ?_⟩
    have eN : nameB x = (decide ((x.length : Int) ≤ 8) && !(inV (.str x) [.str "none", .str "self"]) && Txt.isascii x && Txt.isalpha x && Txt.islower x) := rfl
    by_cases c1 : (1 : Int) ≤ (x.length : Nat)
    · rw [decide_eq_true c1]
      refine ⟨_, _, rfl, rfl, _, rfl, ?_⟩
      by_cases c8 : ((x.length : Nat) : Int) ≤ 8
      · rw [decide_eq_true c8]
        refine ⟨_, rfl, by show 2 ≤ sizeLine; decide, fun t ht => ⟨t, _, rfl, .inr (SqT.of upd_same), rfl, rfl, _, rfl, ?_⟩⟩
        have et := Ex.new (o := .tup [.str "none", .str "self"]) ht
        cases hin : inV (.str x) [.str "none", .str "self"] with
        | true =>
          rw [eN, hin, Bool.not_true, Bool.and_false] at q
          exact q _ et
        | false =>
          have e2 := name_az x (by omega) (by omega) hin
          rw [← e2, ← sgs_empty] at q
          have gz : EvP.Gives (tOp (rEqD K) (tLc (iStr (tVar 0)) (gName 1) tAZ (tVar 1) [1]) (tLst tNil)) [some (.str x), none] (upd H t (.tup [.str "none", .str "self"])) (is (.bl (sgs offA x).isEmpty)) :=
            g_eqNil (g_sgs (f := offA) rfl hl (fun _ => rfl) (fun _ => rfl) (fun c H3 Q h => t_az rfl h)) (sgs_ok ha)
          refine EvP.go gz fun v H1 e1 ev => ?_
          rw [show v = _ from ev]
          exact q _ (et.trans e1)
      · rw [decide_eq_false c8]
        rw [eN, decide_eq_false c8] at q
        exact q _ (Ex.refl _)
    · rw [decide_eq_false c1]
      have : x.length = 0 := by omega
      have e0 : nameB x = false := by
        rw [eN]
        unfold Txt.isalpha
        rw [this]
        simp
      rw [e0] at q
      exact ⟨_, rfl, q _ (Ex.refl _)⟩
theorem ok_lworth (F : Fun K "_law_is_worth" "_law_is_worth" sLWorth f fd) : FnOk P w K mg base CX0 1 f fd ["word"] spLWorth := by
  have nd := scLWorth.nd
  refine F.ok scLWorth (fun vs H Q E h => ?_) (fun cdv A outer s H vs Q E hr h => ?_)
  · obtain ⟨x, rfl, _⟩ := h
    rfl
  · obtain ⟨x, rfl, hl, ha, q⟩ := h
    refine ⟨_, pss_cons (ps_if (PW.pt (pw_or (pt_cmpR op_eq (pv 0) pe_str (nomark _)) (pw_or1 (pt_cmpR (op_neD hr.units) (pe_lc (own := [("sign", 1)]) (g := gName 1) (tt := tTest (tOp rNotInS (tVar 1) (tC (.str d9)))) (te := tVar 1) rfl nd (pi_str (pv 0)) (blkOk_by (N := ["word", "sign"]) (sc := defScope sLWorth) (by decide +kernel))
        (fun _ _ _ _ _ => pg_name (i := 1) nd rfl (Or.inl rfl)) (fun _ _ _ _ _ => pts_one (pt_cmpR op_notInS (pv 1) pe_str (by rfl))) (fun _ _ _ _ _ => pv 1)) (pe_lst pa_nil) (nomark _))))) (pss_one (ps_ret pe_bl)) pss_nil)
      (pss_one (ps_ret (pe_or (pe_cmpR op_eq (pv 0) pe_str (nomark _)) (pe_one (pe_cmpR op_ne (pe_item_str (pv 0) pe_int (fun _ _ => rfl)) pe_str (nomark _)))))), ?_⟩
    refine ⟨_, rfl, rfl, _, rfl, ?_⟩
    by_cases c0 : V.str x = V.str ""
    · rw [decide_eq_true c0]
      have e0 : numB x = false := by
        rw [V.str.inj c0]
        decide +kernel
      rw [e0] at q
      exact q _ (Ex.refl _)
    · rw [decide_eq_false c0]
      have ne : tl x ≠ [] := fun z => c0 (congrArg V.str (Dg.ext z))
      have gz : EvP.Gives (tOp (rNeD K) (tLc (iStr (tVar 0)) (gName 1) (tTest (tOp rNotInS (tVar 1) (tC (.str d9)))) (tVar 1) [1]) (tLst tNil)) [some (.str x), none] H (is (.bl (!(sgs offD x).isEmpty))) :=
        g_neNil (g_sgs (f := offD) rfl hl (fun _ => rfl) (fun _ => rfl) (fun c H3 Q h => ⟨_, rfl, c, d9, rfl, rfl, _, rfl, h⟩)) (sgs_ok ha)
      refine EvP.go gz fun v H1 e1 ev => ⟨_, show v = _ from ev, ?_⟩
      have eA : (Txt.isascii x && Txt.isdigit x) = (sgs offD x).isEmpty := by
        rw [sgs_empty, Bool.eq_iff_iff]
        refine ⟨fun h => List.all_eq_true.mpr fun c hc => ?_, fun h => chars_digit (fun c hc => ?_) ne⟩
        · rw [off_d9]
          exact decide_eq_true ((digit_chars h).1 c hc)
        · have := List.all_eq_true.mp h c hc
          rw [off_d9] at this
          exact of_decide_eq_true this
      have eN : numB x = (Txt.isascii x && Txt.isdigit x && (decide (x = "0") || decide ((tl x).head? ≠ some 48))) := rfl
      rw [eN, eA] at q
      cases ho : (sgs offD x).isEmpty with
      | false =>
        rw [ho] at q
        exact q _ e1
      | true =>
        rw [ho, Bool.true_and] at q
        dsimp only [Bool.not_true, tNext]
        refine ⟨_, rfl, rfl, _, rfl, ?_⟩
        by_cases z0 : x = "0"
        · rw [decide_eq_true z0, Bool.true_or] at q
          rw [decide_eq_true (congrArg V.str z0)]
          exact q _ e1
        rw [decide_eq_false z0, Bool.false_or] at q
        rw [decide_eq_false (fun y => z0 (V.str.inj y))]
        cases hx : tl x with
        | nil => exact absurd hx ne
        | cons c r =>
          have hs : 0 < x.length := by
            rw [← len_cps]
            show 0 < (tl x).length
            rw [hx]
            exact Nat.succ_pos _
          refine ⟨_, rfl, x, 0, c, rfl, rfl, Int.le_refl _, by decide, by omega, ?_, rfl, ?_⟩
          · rw [← Array.getElem?_toList]
            show (tl x)[0]? = some c
            rw [hx]
            rfl
          · have : (!decide (V.str ⟨#[c]⟩ = V.str "0")) = decide ((tl x).head? ≠ some 48) := by
              rw [hx]
              show (!decide (V.str ⟨#[c]⟩ = V.str "0")) = decide (some c ≠ some 48)
              by_cases e : c = 48
              · subst e
                rfl
              · rw [decide_eq_true (show some c ≠ some 48 from fun z => e (Option.some.inj z))]
                rw [decide_eq_false]
                · rfl
                · intro z
                  have z1 : (⟨#[c]⟩ : Str) = "0" := V.str.inj z
                  have z2 : (#[c] : Array Nat).toList = [48] := congrArg (fun y : Str => y.cps.toList) z1
                  exact e (List.cons.inj z2).1
            rw [this]
            exact q _ e1
end
end Wd

set_option Elab.async false
set_option linter.all false
set_option maxRecDepth 100000
set_option maxHeartbeats 4000000
set_option autoImplicit false
/-! _law_row_goes, _law_due. -/
namespace Wd
open PySem PySem.NumText PySem.Spec PyProof.Rows L2 EvP Cm Fk
open Dg hiding numT
/-- words as the law bends them -/
structure Wl (ww : List Str) : Prop where
  few : ww.length ≤ 62
  wl : ∀ x ∈ ww, x.length ≤ 1000 ∧ ∀ c ∈ tl x, c < 128
abbrev sGoes : Stmt := top 49
def NGo : List Str := ["words", "at", "many", "last", "place"]
theorem scGoes : FnScope NGo ["words", "at", "many", "last"] (defScope sGoes) := ⟨rfl, rfl, rfl, by decide +kernel, rfl, by decide +kernel, by decide +kernel⟩
def spGoes : Sp := fun vs H Q _ => ∃ (l : Addr) (ww : List Str) (i n : Nat) (prev : Str), vs = [.ref l, .int (i : Nat), .int (n : Nat), .str prev] ∧ H l = some (.lst (ww.map V.str)) ∧ Wl ww ∧ n ≤ 62 ∧ i ≤ 62 ∧
  (nowN prev ww i = none → ∀ t H', Ex H H' → H' t = some (.tup [.int (i : Nat), .bl false]) → Q (.ref t) H') ∧
  (∀ x, nowN prev ww i = some x → (∀ k, numsEnd n (i + 1) (ww.drop (i + 1)) = .inl k → ∀ t H', Ex H H' → H' t = some (.tup [.int (k : Nat), .bl false]) → Q (.ref t) H') ∧
    (∀ p, numsEnd n (i + 1) (ww.drop (i + 1)) = .inr p → ∀ t H', Ex H H' → H' t = some (.tup [.int ((i + 1 + n : Nat) : Int), .bl true]) → Q (.ref t) H'))
section
variable {P : Program} {w : World} {K : PySem.W.Frag} {mg : Str → Option Value} {base : Heap} {f fN fW : Addr} {fd fdN fdW : FuncData}
theorem ok_goes (F : Fun K "_law_row_goes" "_law_row_goes" sGoes f fd) (T : Fk.Blt mg) (hR : mg "range" = none) (GN : FnOk P w K mg base CX0 1 fN fdN ["word"] spLName) (bN : Binds K fdN ["word"] []) (gN : mg "_law_is_name" = some (.ref fN)) (kN : PySem.W.keepIn K (.ref fN) = true)
    (GW : FnOk P w K mg base CX0 1 fW fdW ["word"] spLWorth) (bW : Binds K fdW ["word"] []) (gW : mg "_law_is_worth" = some (.ref fW)) (kW : PySem.W.keepIn K (.ref fW) = true) : FnOk P w K mg base CX0 2 f fd ["words", "at", "many", "last"] spGoes := by
  have nd := scGoes.nd
  refine F.ok scGoes (fun vs H Q E h => ?_) (fun cdv A outer s H vs Q E hr h => ?_)
  · obtain ⟨l, ww, i, n, prev, rfl, _⟩ := h
    rfl
  · obtain ⟨l, ww, i, n, prev, rfl, hl, wl, ln, li, q1, q2⟩ := h
    refine ⟨_, pss_cons (ps_if (PW.pt (pw_or (pt_cmpR op_ge (pv 1) (pe_callB call_len_seq (by rfl) T.len PySem.boot_len (pa_cons (pv 0) pa_nil)) (nomark _)) (pw_or (pt_not (pt_val (pe_call GN hr (by rfl) gN kN bN .nil pass0 (pa_cons (pe_ix ix_list (pv 0) (pv 1) (fun _ _ => rfl)) pa_nil)))) (pw_or1 (pt_cmpR op_le_str (pe_ix ix_list (pv 0) (pv 1) (fun _ _ => rfl)) (pv 3) (nomark _)))))) (pss_one (ps_ret (pe_tup (pa_cons (pv 1) (pa_cons pe_bl pa_nil))))) pss_nil)
      (pss_cons (ps_for PassesOwn.never rfl (pi_range2 (by rfl) hR (pa_cons (pe_op op_add (pv 1) pe_int) (pa_cons (pe_op op_add (pe_op op_add (pv 1) pe_int) (pv 2)) pa_nil))) (pg_name (i := 4) nd rfl (Or.inl rfl))
        (pss_one (ps_if (PW.pt (pw_or (pt_cmpR op_ge (pv 4) (pe_callB call_len_seq (by rfl) T.len PySem.boot_len (pa_cons (pv 0) pa_nil)) (nomark _)) (pw_or1 (pt_not (pt_val (pe_call GW hr (by rfl) gW kW bW .nil pass0 (pa_cons (pe_ix ix_list (pv 0) (pv 4) (fun _ _ => rfl)) pa_nil))))))) (pss_one (ps_ret (pe_tup (pa_cons (pv 4) (pa_cons pe_bl pa_nil))))) pss_nil)))
      (pss_one (ps_ret (pe_tup (pa_cons (pe_op op_add (pe_op op_add (pv 1) pe_int) (pv 2)) (pa_cons pe_bl pa_nil)))))), ?_⟩
    have len : (((ww.map V.str)).length : Nat) = ww.length := List.length_map ..
    have item : ∀ (j : Nat) (x : Str), ww[j]? = some x → atI (ww.map V.str) (j : Nat) = some (.str x) := fun j x hx => at_of (j := j) rfl (by rw [List.getElem?_map, hx]; rfl)
    -- a tuple that is told
    have tell : ∀ (k : Nat) (b : Bool) (H1 : Hp), Ex H H1 → (∀ t H', Ex H H' → H' t = some (.tup [.int (k : Nat), .bl b]) → Q (.ref t) H') → ∀ t, H1 t = none → Q (.ref t) (upd H1 t (.tup [.int (k : Nat), .bl b])) := fun k b H1 e g t ht => g t _ (e.trans (Ex.new ht)) upd_same
    refine ⟨_, rfl, _, rfl, l, _, rfl, .inl (SqL.of hl), _, _, rfl, rfl, _, rfl, ?_⟩
    rw [len]
    cases e : ww[i]? with
    | none =>
      have : ww.length ≤ i := List.getElem?_eq_none_iff.mp e
      rw [decide_eq_true (show ((ww.length : Nat) : Int) ≤ (i : Nat) by omega)]
      exact ⟨_, rfl, by show 2 ≤ sizeLine; decide, tell i false H (Ex.refl H) (q1 (by unfold nowN; rw [e]))⟩
    | some x =>
      have hi := lt_up e
      obtain ⟨x1, x2⟩ := wl.wl x (List.mem_of_getElem? e)
      rw [decide_eq_false (show ¬ ((ww.length : Nat) : Int) ≤ (i : Nat) by omega)]
      refine ⟨_, rfl, _, rfl, l, _, _, _, rfl, rfl, SqL.of hl, item i x e, _, rfl, x1, x2, fun H1 e1 => ⟨_, rfl, ?_⟩⟩
      have hl1 := e1 _ _ hl
      cases hn : nameB x with
      | false => exact ⟨_, rfl, by show 2 ≤ sizeLine; decide, tell i false H1 e1 (q1 (nowN_at e hn rfl))⟩
      | true =>
        refine ⟨_, rfl, _, rfl, l, _, _, _, rfl, rfl, SqL.of hl1, item i x e, _, rfl, _, _, rfl, rfl, _, rfl, ?_⟩
        cases hp : decide (prev.cps.toList < x.cps.toList) with
        | false => exact ⟨_, rfl, by show 2 ≤ sizeLine; decide, tell i false H1 e1 (q1 (nowN_at e hn hp))⟩
        | true =>
          obtain ⟨r1, r2⟩ := q2 x (nowN_at e hn hp)
          refine ⟨_, rfl, _, _, rfl, rfl, _, rfl, _, _, rfl, rfl, _, rfl, _, _, rfl, rfl, ?_⟩
          refine ⟨((i : Nat) : Int) + 1, ((i : Nat) : Int) + 1 + ((n : Nat) : Int), rfl, ⟨by omega, by omega, by omega, by omega⟩, ?_⟩
          rw [show (((i : Nat) : Int) + 1 + ((n : Nat) : Int) - (((i : Nat) : Int) + 1)).toNat = n by omega]
          refine for_range (lo := ((i : Nat) : Int) + 1) (n := n) (fun j σ H' => Ex H H' ∧ ∃ (o : Option V) (vs : List Int), σ = [some (.ref l), some (.int (i : Nat)), some (.int (n : Nat)), some (.str prev), o] ∧ numsEnd n (i + 1) (ww.drop (i + 1)) = Wd.gN vs (numsEnd (n - j) (i + 1 + j) (ww.drop (i + 1 + j)))) ⟨e1, _, [], rfl, (Wd.gN_nil _).symm⟩ (fun j σ H' hj h => ?_) (fun σ H' h => ?_)
          · obtain ⟨e2, o, vs, rfl, ev⟩ := h
            have hl2 := e2 _ _ hl
            rw [show ((i : Nat) : Int) + 1 + ((j : Nat) : Int) = ((i + 1 + j : Nat) : Int) by omega]
            have sub : n - j = (n - (j + 1)) + 1 := by omega
            rw [sub] at ev
            refine ⟨_, rfl, _, rfl, l, _, rfl, .inl (SqL.of hl2), _, _, rfl, rfl, _, rfl, ?_⟩
            rw [len]
            cases e3 : ww[i + 1 + j]? with
            | none =>
              have := List.getElem?_eq_none_iff.mp e3
              rw [decide_eq_true (show ((ww.length : Nat) : Int) ≤ ((i + 1 + j : Nat) : Int) by omega)]
              exact ⟨_, rfl, by show 2 ≤ sizeLine; decide, tell (i + 1 + j) false H' e2 (r1 (i + 1 + j) (by rw [ev, nums_bad (by unfold nowA; rw [e3])]; rfl))⟩
            | some y =>
              have hj2 := lt_up e3
              obtain ⟨y1, y2⟩ := wl.wl y (List.mem_of_getElem? e3)
              rw [decide_eq_false (show ¬ ((ww.length : Nat) : Int) ≤ ((i + 1 + j : Nat) : Int) by omega)]
              refine ⟨_, rfl, _, rfl, l, _, _, _, rfl, rfl, SqL.of hl2, item (i + 1 + j) y e3, _, rfl, y1, y2, fun H3 e4 => ⟨_, rfl, ?_⟩⟩
              cases hw : numB y with
              | false => exact ⟨_, rfl, by show 2 ≤ sizeLine; decide, tell (i + 1 + j) false H3 (e2.trans e4) (r1 (i + 1 + j) (by rw [ev, nums_bad (nowA_at (m := 0) e3 hw rfl)]; rfl))⟩
              | true =>
                have na : nowA 0 ww (i + 1 + j) = some (valT y) := nowA_at (m := 0) e3 hw (decide_eq_true (Nat.zero_le _))
                exact ⟨e2.trans e4, _, vs ++ [((valT y : Nat) : Int)], rfl, by rw [ev, nums_go na, Wd.gN_gN]; rfl⟩
          · obtain ⟨e2, o, vs, rfl, ev⟩ := h
            rw [Nat.sub_self] at ev
            refine ⟨_, rfl, _, _, rfl, rfl, _, rfl, _, _, rfl, rfl, by show 2 ≤ sizeLine; decide, fun t ht => ?_⟩
            exact tell (i + 1 + n) true H' e2 (r2 _ ev) t ht
end
abbrev sDue : Stmt := top 50
def NDu : List Str := ["line", "words", "at", "last", "many", "count", "begin", "is_fine"]
theorem scDue : FnScope NDu ["line"] (defScope sDue) := ⟨rfl, rfl, rfl, by decide +kernel, rfl, by decide +kernel, by decide +kernel⟩
/-- a line as the law bends it -/
structure Ln (z : Str) : Prop extends TxT z where
  asc : ∀ c ∈ tl z, c < 128
  wl : ∀ x ∈ ws z, x.length ≤ 31
theorem Ln.w {z : Str} (h : Ln z) : Wl (ws z) := ⟨h.few, fun x hx => ⟨Nat.le_trans (h.wl x hx) (by decide), fun c hc => h.asc c ((ws_mem hx).2.2 c hc)⟩⟩
def spLDue : Sp := fun vs H Q _ => ∃ z : Str, vs = [.str z] ∧ Ln z ∧
  (∀ k, due (ws z) = .inl k → ∀ t H', Ex H H' → H' t = some (.tup (badT k)) → Q (.ref t) H') ∧
  (∀ us rs, due (ws z) = .inr (us, rs) → (6 < rs.length → ∀ t H', Ex H H' → H' t = some (.tup (manyT "sources")) → Q (.ref t) H') ∧ (rs.length ≤ 6 → 6 < us.length → ∀ t H', Ex H H' → H' t = some (.tup (manyT "uses")) → Q (.ref t) H') ∧
    (rs.length ≤ 6 → us.length ≤ 6 → ∀ H', Ex H H' → Q .non H'))
section
variable {P : Program} {w : World} {K : PySem.W.Frag} {mg : Str → Option Value} {base : Heap} {f fN fG : Addr} {fd fdN fdG : FuncData}
theorem ok_ldue (F : Fun K "_law_due" "_law_due" sDue f fd) (T : Fk.Blt mg) (GN : FnOk P w K mg base CX0 1 fN fdN ["word"] spLName) (bN : Binds K fdN ["word"] []) (gN : mg "_law_is_name" = some (.ref fN)) (kN : PySem.W.keepIn K (.ref fN) = true)
    (GG : FnOk P w K mg base CX0 2 fG fdG ["words", "at", "many", "last"] spGoes) (bG : Binds K fdG ["words", "at", "many", "last"] []) (gG : mg "_law_row_goes" = some (.ref fG)) (kG : PySem.W.keepIn K (.ref fG) = true) : FnOk P w K mg base CX0 3 f fd ["line"] spLDue := by
  have nd := scDue.nd
  refine F.ok scDue (fun vs H Q E h => ?_) (fun cdv A outer s H vs Q E hr h => ?_)
  · obtain ⟨z, rfl, _⟩ := h
    rfl
  · obtain ⟨z, rfl, hz, q1, q2⟩ := h
    refine ⟨_, pss_cons (ps_par3 (i := 1) (j := 2) (l := 3) (by rfl) nd rfl rfl rfl (by decide) (by decide) (by decide) rfl rfl rfl (pa_cons (pe_split (pv 0) pe_str) (pa_cons pe_int (pa_cons pe_str pa_nil))) (by rfl))
      (pss_cons (ps_while PassesOwn.never (PW.pt (pw_and (pt_cmpR op_lt (pv 2) (pe_callB call_len_seq (by rfl) T.len PySem.boot_len (pa_cons (pv 1) pa_nil)) (nomark _)) (pw_and1 (pt_cmpR op_ne (pe_ix ix_list (pv 1) (pv 2) (fun _ _ => rfl)) pe_str (nomark _)))))
        (pss_cons (ps_if (PW.pt (pw_or (pt_not (pt_val (pe_call GN (hr.mono (by decide)) (by rfl) gN kN bN .nil pass0 (pa_cons (pe_ix ix_list (pv 1) (pv 2) (fun _ _ => rfl)) pa_nil)))) (pw_or1 (pt_cmpR op_le_str (pe_ix ix_list (pv 1) (pv 2) (fun _ _ => rfl)) (pv 3) (nomark _))))) (pss_one (ps_ret (pe_tup (pa_cons pe_str (pa_cons pe_int (pa_cons (pv 2) pa_nil)))))) pss_nil)
          (pss_one (ps_par (i := 3) (j := 2) (by rfl) nd rfl rfl (by decide) rfl rfl (pa_cons (pe_ix ix_list (pv 1) (pv 2) (fun _ _ => rfl)) (pa_cons (pe_op op_add (pv 2) pe_int) pa_nil)) (by rfl)))))
      (pss_cons (ps_if (pt_cmpR op_eq (pv 2) (pe_callB call_len_seq (by rfl) T.len PySem.boot_len (pa_cons (pv 1) pa_nil)) (nomark _)) (pss_one (ps_ret (pe_tup (pa_cons pe_str (pa_cons pe_int (pa_cons (pv 2) pa_nil)))))) pss_nil)
      (pss_cons (ps_asg (pe_tup (pa_cons (pv 2) (pa_cons (pe_op op_add (pv 2) pe_int) (pa_cons pe_str (pa_cons pe_int pa_nil))))) (pg_tup rfl (pgs_cons (pg_name (i := 4) nd rfl (Or.inl rfl)) (pgs_cons (pg_name (i := 2) nd rfl (Or.inl rfl)) (pgs_cons (pg_name (i := 3) nd rfl (Or.inl rfl)) (pgs_cons (pg_name (i := 5) nd rfl (Or.inl rfl)) pgs_nil))))))
      (pss_cons (ps_while PassesOwn.never (pt_cmpR op_lt (pv 2) (pe_callB call_len_seq (by rfl) T.len PySem.boot_len (pa_cons (pv 1) pa_nil)) (nomark _))
        (pss_cons (ps_if (PW.pt (pw_and (pt_cmpR op_gt (pv 5) pe_int (nomark _)) (pw_and1 (pt_cmpR op_ne (pe_ix ix_list (pv 1) (pv 2) (fun _ _ => rfl)) pe_str (nomark _))))) (pss_one (ps_ret (pe_tup (pa_cons pe_str (pa_cons pe_int (pa_cons (pv 2) pa_nil)))))) pss_nil)
        (pss_cons (ps_set (i := 6) nd rfl (Or.inl rfl) (pe_op op_add (pv 2) (pe_callTy call_int1 (by rfl) T.int (by decide +kernel) (pa_cons (pe_cmpR op_gt (pv 5) pe_int (nomark _)) pa_nil))))
        (pss_cons (ps_asg (pe_call GG hr (by rfl) gG kG bG .nil pass0 (pa_cons (pv 1) (pa_cons (pv 6) (pa_cons (pv 4) (pa_cons (pv 3) pa_nil))))) (pg_tup rfl (pgs_cons (pg_name (i := 2) nd rfl (Or.inl rfl)) (pgs_cons (pg_name (i := 7) nd rfl (Or.inl rfl)) pgs_nil))))
        (pss_cons (ps_if (pt_not (pt_val (pv 7))) (pss_one (ps_ret (pe_tup (pa_cons pe_str (pa_cons pe_int (pa_cons (pv 2) pa_nil)))))) pss_nil)
        (pss_one (ps_par (i := 3) (j := 5) (by rfl) nd rfl rfl (by decide) rfl rfl (pa_cons (pe_ix ix_list (pv 1) (pv 6) (fun _ _ => rfl)) (pa_cons (pe_op op_add (pv 5) pe_int) pa_nil)) (by rfl)))))))) 
      (pss_cons (ps_if (pt_cmpR op_gt (pv 5) pe_int (nomark _)) (pss_one (ps_ret (pe_tup (pa_cons pe_str (pa_cons pe_str (pa_cons pe_int pa_nil)))))) pss_nil)
      (pss_one (ps_ret (pe_ifExp (pt_cmpR op_gt (pv 4) pe_int (nomark _)) (pe_tup (pa_cons pe_str (pa_cons pe_str (pa_cons pe_int pa_nil)))) pe_non)))))))), ?_⟩
    refine ⟨_, rfl, ⟨_, rfl⟩, z, " ", rfl, rfl, rfl, by rw [sizeLine_eq]; have := hz.len; omega, fun l hl => ?_⟩
    refine ⟨_, _, _, rfl, ?_⟩
    have eS := Ex.new (o := .lst ((ws z).map V.str)) hl
    have hW : upd H l (.lst ((ws z).map V.str)) l = some (.lst ((ws z).map V.str)) := upd_same
    generalize upd H l (.lst ((ws z).map V.str)) = H1 at eS hW ⊢
    have wl := hz.w
    have few := hz.few
    generalize ws z = ww at hW wl few q1 q2 ⊢
    have len : (((ww.map V.str)).length : Nat) = ww.length := List.length_map ..
    have item : ∀ (j : Nat) (x : Str), ww[j]? = some x → atI (ww.map V.str) (j : Nat) = some (.str x) := fun j x hx => at_of (j := j) rfl (by rw [List.getElem?_map, hx]; rfl)
    have dlt : ∀ i : Nat, decide (((i : Nat) : Int) < (ww.length : Nat)) = decide (i < ww.length) := fun i => by
      rw [decide_eq_decide]
      omega
    have tell : ∀ (k : Nat) (H2 : Hp), Ex H1 H2 → due ww = .inl k → ∀ t, H2 t = none → Q (.ref t) (upd H2 t (.tup (badT k))) := fun k H2 e hd t ht => q1 k hd t _ ((eS.trans e).trans (Ex.new ht)) upd_same
    refine ⟨fun μ σ H' => Ex H1 H' ∧ ∃ (us1 : List Str) (prev : Str) (i : Nat), μ = ww.length - i ∧ σ = [some (.str z), some (.ref l), some (.int (i : Nat)), some (.str prev), none, none, none, none] ∧ usesEnd "" 0 ww = Wd.gU us1 (usesEnd prev i (ww.drop i)) ∧ us1.length = i ∧ i ≤ ww.length,
      ⟨_, Ex.refl _, [], "", 0, rfl, rfl, (Wd.gU_nil _).symm, rfl, Nat.zero_le _⟩, fun μ σ H2 hW2 => ?_⟩
    obtain ⟨e2, us1, prev, i, rfl, rfl, ew, ul, il⟩ := hW2
    have hl2 := e2 _ _ hW
    refine ⟨_, rfl, _, rfl, l, _, rfl, .inl (SqL.of hl2), _, _, rfl, rfl, _, rfl, ?_⟩
    rw [len, dlt]
    cases e : ww[i]? with
    | none =>
      have il2 := List.getElem?_eq_none_iff.mp e
      have : i = ww.length := by omega
      rw [decide_eq_false (show ¬ i < ww.length by omega)]
      refine ⟨_, rfl, _, rfl, l, _, rfl, .inl (SqL.of hl2), rfl, _, rfl, ?_⟩
      rw [len, decide_eq_true (show V.int (i : Nat) = V.int (ww.length : Nat) by rw [this])]
      refine ⟨_, rfl, by show 3 ≤ sizeLine; decide, tell i H2 e2 ?_⟩
      rw [due_at, ew, uses_bad (by rw [e]; exact fun z => nomatch z) (by unfold nowN; rw [e])]
      rfl
    | some x =>
      have hi := lt_up e
      obtain ⟨x1, x2⟩ := wl.wl x (List.mem_of_getElem? e)
      rw [decide_eq_true (show i < ww.length by omega)]
      refine ⟨_, rfl, _, rfl, l, _, _, _, rfl, rfl, SqL.of hl2, item i x e, rfl, _, rfl, ?_⟩
      by_cases hc : x = ":"
      · subst hc
        have z0 : (!decide (V.str (":" : Str) = V.str (":" : Str))) = false := by rw [decide_eq_true rfl]; rfl
        rw [z0]
        have ei : usesEnd "" 0 ww = .inr (us1, ww.drop (i + 1)) := by
          rw [ew, uses_col e]
          show Sum.inr (us1 ++ [], _) = _
          rw [List.append_nil]
        have du : due ww = match rowsAt us1.length ww true "" (i + 1) with
            | .inl k => .inl k
            | .inr rs => .inr (us1, rs) := by
          rw [due_at, ei, ← ul]
          rfl
        rw [ul] at du
        refine ⟨_, rfl, _, rfl, l, _, rfl, .inl (SqL.of hl2), rfl, _, rfl, ?_⟩
        rw [len, decide_eq_false (show ¬ V.int (i : Nat) = V.int (ww.length : Nat) from fun z => by have := V.int.inj z; omega)]
        refine ⟨_, rfl, _, rfl, _, _, rfl, rfl, by show 4 ≤ sizeLine; decide, fun tq htq => ?_⟩
        have eq4 := Ex.new (o := .tup [.int (i : Nat), .int (((i : Nat) : Int) + 1), .str "", .int 0]) htq
        refine ⟨tq, _, rfl, SqT.of upd_same, rfl, _, _, rfl, _, _, rfl, _, _, rfl, _, _, rfl, rfl, ?_⟩
        have hl4 := eq4 _ _ hl2
        have e4 := e2.trans eq4
        generalize upd H2 tq (.tup [.int (i : Nat), .int (((i : Nat) : Int) + 1), .str "", .int 0]) = H4 at hl4 e4 ⊢
        have ui : us1.length = i := ul
        refine ⟨fun μ σ H' => Ex H1 H' ∧ ∃ (rs : Rws) (src : Str) (j : Nat) (o6 o7 : Option V), μ = ww.length - j ∧ σ = [some (.str z), some (.ref l), some (.int (j : Nat)), some (.str src), some (.int (i : Nat)), some (.int (rs.length : Nat)), o6, o7] ∧ rowsAt i ww true "" (i + 1) = gR rs (rowsAt i ww rs.isEmpty src j) ∧ j ≤ ww.length,
          ⟨_, e4, [], "", i + 1, _, _, rfl, rfl, (gR_nil _).symm, hi⟩, fun μ σ H5 hW5 => ?_⟩
        obtain ⟨e5, rs, src, j, o6, o7, rfl, rfl, er, jl⟩ := hW5
        have hl5 := e5 _ _ hW
        refine ⟨_, rfl, _, rfl, l, _, rfl, .inl (SqL.of hl5), _, _, rfl, rfl, _, rfl, ?_⟩
        rw [len, dlt]
        have empt : decide ((0 : Int) < (rs.length : Nat)) = !rs.isEmpty := by
          cases rs with
          | nil => rfl
          | cons a r =>
            show decide ((0 : Int) < ((r.length + 1 : Nat) : Int)) = true
            exact decide_eq_true (by omega)
        cases e : ww[j]? with
        | none =>
          have jl2 := List.getElem?_eq_none_iff.mp e
          rw [decide_eq_false (show ¬ j < ww.length by omega)]
          rw [rA_end jl2] at er
          have er' : rowsAt i ww true "" (i + 1) = .inr rs := by
            rw [er]
            show Sum.inr (rs ++ []) = _
            rw [List.append_nil]
          obtain ⟨w1, w2, w3⟩ := q2 us1 rs (by rw [du, er'])
          refine ⟨_, rfl, _, _, rfl, rfl, _, rfl, ?_⟩
          by_cases c6 : 6 < rs.length
          · rw [decide_eq_true (show (6 : Int) < (rs.length : Nat) by omega)]
            exact ⟨by show 3 ≤ sizeLine; decide, fun t ht => w1 c6 t _ ((eS.trans e5).trans (Ex.new ht)) upd_same⟩
          · rw [decide_eq_false (show ¬ (6 : Int) < (rs.length : Nat) by omega)]
            refine ⟨_, rfl, _, _, rfl, rfl, _, rfl, ?_⟩
            by_cases c7 : 6 < i
            · rw [decide_eq_true (show (6 : Int) < (i : Nat) by omega)]
              exact ⟨by show 3 ≤ sizeLine; decide, fun t ht => w2 (by omega) (by omega) t _ ((eS.trans e5).trans (Ex.new ht)) upd_same⟩
            · rw [decide_eq_false (show ¬ (6 : Int) < (i : Nat) by omega)]
              exact w3 (by omega) (by omega) _ (eS.trans e5)
        | some y =>
          have hj := lt_up e
          rw [decide_eq_true (show j < ww.length by omega)]
          refine ⟨fun σ' H3 => ∃ m', m' < ww.length - j ∧ Ex H1 H3 ∧ ∃ (rs : Rws) (src : Str) (j : Nat) (o6 o7 : Option V), m' = ww.length - j ∧ σ' = [some (.str z), some (.ref l), some (.int (j : Nat)), some (.str src), some (.int (i : Nat)), some (.int (rs.length : Nat)), o6, o7] ∧ rowsAt i ww true "" (i + 1) = gR rs (rowsAt i ww rs.isEmpty src j) ∧ j ≤ ww.length, fun _ _ z => z, ?_⟩
          have bad : ∀ k, rowsAt i ww true "" (i + 1) = .inl k → due ww = .inl k := fun k hk => by rw [du, hk]
          -- the row, from word b on
          have row : ∀ (b : Nat) (H6 : Hp), Ex H5 H6 → b = (if rs.isEmpty = true then j else j + 1) → (rs.isEmpty = true ∨ ww[j]? = some (";" : Str)) → b ≤ 62 ∧ (nowN src ww b = none → due ww = .inl b) ∧
              (∀ x, nowN src ww b = some x → (∀ k, numsEnd i (b + 1) (ww.drop (b + 1)) = .inl k → due ww = .inl k) ∧ (∀ p, numsEnd i (b + 1) (ww.drop (b + 1)) = .inr p → rowsAt i ww true "" (i + 1) = gR (rs ++ [(x, p.1)]) (rowsAt i ww (rs ++ [(x, p.1)]).isEmpty x (b + 1 + i)) ∧ b + 1 + i ≤ ww.length ∧ j < b + 1 + i)) := fun b H6 e6 eb hs => by
            refine ⟨by rw [eb]; split <;> omega, fun hn => bad b (by rw [er, rA_bad hj hs (by rw [← eb]; exact hn), ← eb]; rfl), fun x hx => ⟨fun k hk => bad k ?_, fun p hp => ⟨?_, ?_, ?_⟩⟩⟩
            · rw [er, rA_go hj hs (by rw [← eb]; exact hx), ← eb, hk]
              rfl
            · rw [er, rA_go hj hs (by rw [← eb]; exact hx), ← eb, hp]
              show gR rs (gR [(x, p.1)] _) = _
              rw [gR_gR, show (rs ++ [(x, p.1)]).isEmpty = false from by cases rs <;> rfl]
            · have := (nums_facts hp).2
              rw [List.length_drop] at this
              have := lt_up (nowN_some hx).1
              omega
            · have : j ≤ b := by rw [eb]; split <;> omega
              omega
          refine Tb.st_ifB (b := !rs.isEmpty && !decide (y = (";" : Str))) ?_ (fun cT H6 e6 => ?_) (fun cF H6 e6 => ?_)
          · intro H6 e6 Q6 q6
            refine ⟨_, rfl, _, _, rfl, rfl, _, rfl, ?_⟩
            rw [empt]
            cases hr : rs.isEmpty with
            | true =>
              rw [hr] at q6
              exact q6 _ (Ex.refl _)
            | false =>
              rw [hr] at q6
              refine ⟨_, rfl, _, rfl, l, _, _, _, rfl, rfl, SqL.of (e6 _ _ hl5), item j y e, rfl, _, rfl, ?_⟩
              have dd : (!decide (V.str y = V.str (";" : Str))) = !decide (y = (";" : Str)) := by
                by_cases c : y = (";" : Str)
                · rw [decide_eq_true c, decide_eq_true (congrArg V.str c)]
                · rw [decide_eq_false c, decide_eq_false fun z => c (V.str.inj z)]
              rw [dd]
              exact q6 _ (Ex.refl _)
          · rw [Bool.and_eq_true] at cT
            obtain ⟨c1, c2⟩ := cT
            have c1' : rs.isEmpty = false := by simpa using c1
            have c2' : y ≠ (";" : Str) := by simpa using c2
            exact ⟨_, rfl, by show 3 ≤ sizeLine; decide, tell j H6 (e5.trans e6) (bad j (by rw [er, c1', rA_semi hj (by rw [e]; exact fun z => c2' (Option.some.inj z))]; rfl))⟩
          · have hs : rs.isEmpty = true ∨ ww[j]? = some (";" : Str) := by
              cases hr : rs.isEmpty with
              | true => exact .inl rfl
              | false =>
                rw [hr] at cF
                right
                rw [e]
                have : y = (";" : Str) := by simpa using cF
                rw [this]
            obtain ⟨b, eb⟩ : ∃ b : Nat, b = if rs.isEmpty = true then j else j + 1 := ⟨_, rfl⟩
            obtain ⟨b62, n1, n2⟩ := row b H6 e6 eb hs
            refine ⟨_, rfl, _, rfl, _, _, rfl, rfl, .inr ⟨_, rfl, _, _, rfl, rfl, ?_⟩⟩
            have ebi : ((j : Nat) : Int) + (if decide ((0 : Int) < (rs.length : Nat)) = true then (1 : Int) else 0) = ((b : Nat) : Int) := by
              rw [empt, eb]
              cases rs.isEmpty <;> rfl
            dsimp only
            rw [ebi]
            have hl6 := e6 _ _ hl5
            have e16 := e5.trans e6
            refine ⟨_, rfl, _, rfl, _, rfl, _, rfl, l, ww, b, i, src, rfl, hl6, wl, by omega, b62, fun hn t H7 e7 ht => ?_, fun x hx => ⟨fun k hk t H7 e7 ht => ?_, fun p hp t H7 e7 ht => ?_⟩⟩
            · refine ⟨t, _, rfl, SqT.of ht, rfl, _, _, rfl, _, _, rfl, rfl, _, rfl, _, rfl, ?_⟩
              exact ⟨_, rfl, by show 3 ≤ sizeLine; decide, tell b H7 (e16.trans e7) (n1 hn)⟩
            · refine ⟨t, _, rfl, SqT.of ht, rfl, _, _, rfl, _, _, rfl, rfl, _, rfl, _, rfl, ?_⟩
              exact ⟨_, rfl, by show 3 ≤ sizeLine; decide, tell k H7 (e16.trans e7) ((n2 x hx).1 k hk)⟩
            · obtain ⟨r1, r2, r3⟩ := (n2 x hx).2 p hp
              refine ⟨t, _, rfl, SqT.of ht, rfl, _, _, rfl, _, _, rfl, rfl, _, rfl, _, rfl, ?_⟩
              refine ⟨_, rfl, _, rfl, l, _, _, _, rfl, rfl, SqL.of (e7 _ _ hl6), item b x (nowN_some hx).1, _, rfl, _, _, rfl, rfl, _, _, rfl, ?_⟩
              exact ⟨ww.length - (b + 1 + i), by omega, e16.trans e7, rs ++ [(x, p.1)], x, b + 1 + i, _, _, rfl, by rw [List.length_append]; rfl, r1, r2⟩
      · have z0 : (!decide (V.str x = V.str (":" : Str))) = true := by rw [decide_eq_false fun z => hc (V.str.inj z)]; rfl
        rw [z0]
        have nc : ww[i]? ≠ some (":" : Str) := by rw [e]; exact fun z => hc (Option.some.inj z)
        refine ⟨fun σ' H3 => ∃ m', m' < ww.length - i ∧ Ex H1 H3 ∧ ∃ (us1 : List Str) (prev : Str) (i : Nat), m' = ww.length - i ∧ σ' = [some (.str z), some (.ref l), some (.int (i : Nat)), some (.str prev), none, none, none, none] ∧ usesEnd "" 0 ww = Wd.gU us1 (usesEnd prev i (ww.drop i)) ∧ us1.length = i ∧ i ≤ ww.length, fun _ _ z => z, ?_⟩
        refine ⟨_, rfl, _, rfl, l, _, _, _, rfl, rfl, SqL.of hl2, item i x e, _, rfl, x1, x2, fun H3 e3 => ⟨_, rfl, ?_⟩⟩
        have hl3 := e3 _ _ hl2
        have bad : nowN prev ww i = none → due ww = .inl i := fun hn => by
          rw [due_at, ew, uses_bad nc hn]
          rfl
        cases hn : nameB x with
        | false => exact ⟨_, rfl, by show 3 ≤ sizeLine; decide, tell i H3 (e2.trans e3) (bad (nowN_at e hn rfl))⟩
        | true =>
          refine ⟨_, rfl, _, rfl, l, _, _, _, rfl, rfl, SqL.of hl3, item i x e, _, rfl, _, _, rfl, rfl, _, rfl, ?_⟩
          cases hp : decide (prev.cps.toList < x.cps.toList) with
          | false => exact ⟨_, rfl, by show 3 ≤ sizeLine; decide, tell i H3 (e2.trans e3) (bad (nowN_at e hn hp))⟩
          | true =>
            refine ⟨_, rfl, _, rfl, l, _, _, _, rfl, rfl, SqL.of hl3, item i x e, _, rfl, _, _, rfl, rfl, _, _, rfl, ?_⟩
            exact ⟨ww.length - (i + 1), by omega, e2.trans e3, us1 ++ [x], x, i + 1, rfl, rfl, by rw [ew, uses_go nc (nowN_at e hn hp), Wd.gU_gU], by rw [List.length_append, ul]; rfl, hi⟩
end
end Wd

set_option Elab.async false
set_option linter.all false
set_option maxRecDepth 100000
set_option maxHeartbeats 4000000
set_option autoImplicit false
/-! What is read of a line: its text, its worths. -/
namespace Wd
open PySem PySem.NumText PySem.Spec Fk
open Dg hiding numT
open DtE (TRow lookT)
open Tb (key2 wk tblT rowsT rowT rowW Wks)
open K06 (GoodR NamesOk)
theorem rw_mem {t : Str × List Int} {v : Int} (hv : v ∈ t.2) : ∀ {rs : Rws} {first : Bool}, t ∈ rs → numT v ∈ rw first rs
  | [], _, h => by cases h
  | x :: rs, first, h => by
    have e : rw first (x :: rs) = (if first = true then [] else [(";" : Str)]) ++ (x.1 :: x.2.map numT) ++ rw false rs := rfl
    rw [e]
    rcases List.mem_cons.mp h with rfl | h
    · exact List.mem_append_left _ (List.mem_append_right _ (.tail _ (List.mem_map_of_mem hv)))
    · exact List.mem_append_right _ (rw_mem hv h)
theorem small_num {v : Int} (h0 : 0 ≤ v) (l : (numT v).length ≤ 31) : v < 10 ^ 31 := by
  have e := valT_num h0
  have d : AllDigits (tl (numT v)) := by
    show AllDigits (numT v).cps.toList
    rw [numT_cps h0]
    exact dl_digits _
  have lt := val_lt d
  have le : 10 ^ (tl (numT v)).length ≤ 10 ^ 31 := Nat.pow_le_pow_right (by decide) (by rw [len_cps]; exact l)
  have : valT (numT v) < 10 ^ 31 := Nat.lt_of_lt_of_le lt le
  rw [← e]
  have h : ((valT (numT v) : Nat) : Int) < ((10 ^ 31 : Nat) : Int) := Int.ofNat_lt.mpr this
  exact h
/-- what a line that is a table's text tells -/
structure RdOk (z : Str) (us : List Str) (rs : Rws) : Prop where
  uu : Up "" us
  rr : RwOk us.length "" rs
  tx : tblT (rs.map (·.1)) us (wOf us rs) = z
  wk : Wks (wOf us rs)
  good : GoodR (rs.map (·.1)) us (wOf us rs)
  wkv : ∀ t ∈ rs, ∀ e ∈ us.zip t.2, Tb.wk (wOf us rs) (key2 t.1 e.1) = e.2
theorem wof_mem {us : List Str} {rs : Rws} {k : List L2.Key} {n : Int} (h : (k, n) ∈ wOf us rs) : ∃ t ∈ rs, ∃ e ∈ us.zip t.2, 0 < e.2 ∧ k = key2 t.1 e.1 ∧ n = e.2 := by
  unfold wOf at h
  obtain ⟨p, hp, hz⟩ := List.mem_flatMap.mp h
  unfold tabOf at hp
  obtain ⟨t, ht, rfl⟩ := List.mem_map.mp hp
  unfold Tb.wrow at hz
  obtain ⟨e, he, ee⟩ := List.mem_map.mp hz
  obtain ⟨m1, m2⟩ := List.mem_filter.mp he
  exact ⟨t, ht, e, m1, of_decide_eq_true m2, (congrArg Prod.fst ee).symm, (congrArg Prod.snd ee).symm⟩
theorem wof_nod {us : List Str} {rs : Rws} (hu : Up "" us) (h : RwOk us.length "" rs) (hl : (tblW us rs).length ≤ 62) : ((wOf us rs).map (·.1)).Nodup := by
  let T : Tb.Tab := rs.zipIdx.map fun p => (p.1.1, p.2, us.zip p.1.2)
  have nodA : (T.map (·.2.1)).Nodup := by
    show ((rs.zipIdx.map fun p => (p.1.1, p.2, us.zip p.1.2)).map (·.2.1)).Nodup
    rw [List.map_map]
    show (rs.zipIdx.map (·.2)).Nodup
    rw [List.zipIdx_map_snd]
    exact List.nodup_range'
  have tab : T.map (fun t => (t.1, t.2.2)) = tabOf us rs := by
    show (rs.zipIdx.map fun p => (p.1.1, p.2, us.zip p.1.2)).map (fun t => (t.1, t.2.2)) = _
    rw [List.map_map]
    unfold tabOf
    conv => rhs; rw [← List.zipIdx_map_fst 0 rs]
    rw [List.map_map]
    rfl
  obtain ⟨ok, _, _, _, ew, _⟩ := tab_facts hu h hl nodA tab
  rw [← ew]
  exact Tb.worths_nod ok
theorem map_zip {us : List Str} {vs : List Int} (l : vs.length = us.length) {f : Str → Str} (h : ∀ e ∈ us.zip vs, f e.1 = numT e.2) : us.map f = vs.map numT := by
  have e1 : (us.zip vs).map (·.1) = us := List.map_fst_zip (by omega)
  have e2 : (us.zip vs).map (·.2) = vs := List.map_snd_zip (by omega)
  conv => lhs; rw [← e1]
  conv => rhs; rw [← e2]
  rw [List.map_map, List.map_map]
  exact List.map_congr_left h
theorem read_ok {z : Str} {us : List Str} {rs : Rws} (hf : TxT z) (hw : ∀ x ∈ ws z, x.length ≤ 31) (hd : due (ws z) = .inr (us, rs)) : RdOk z us rs := by
  obtain ⟨w1, w2, w3⟩ := due_facts hd
  have hl : (tblW us rs).length ≤ 62 := by rw [← w1]; exact hf.few
  have wkv : ∀ t ∈ rs, ∀ e ∈ us.zip t.2, Tb.wk (wOf us rs) (key2 t.1 e.1) = e.2 := fun t ht e he => wk_of w2 w3 hl ht he
  have nod := wof_nod w2 w3 hl
  refine ⟨w2, w3, ?_, fun k => ?_, ⟨nod, fun t ht => ?_, fun t ht => ?_⟩, wkv⟩
  · rw [tbl_text w3.up.nod fun t ht => map_zip (w3.row t ht).1 fun e he => by rw [wkv t ht e he], ← w1, glue]
  · unfold Tb.wk
    cases hq : lookT (wOf us rs) k with
    | none => exact ⟨Int.le_refl _, by decide⟩
    | some n =>
      obtain ⟨t, ht, e, he, p, _, rfl⟩ := wof_mem ((K06.look_mem nod).mp hq)
      have me : e.2 ∈ t.2 := (List.of_mem_zip (show (e.1, e.2) ∈ _ from he)).2
      have h0 := (w3.row t ht).2 _ me
      have mw : numT e.2 ∈ ws z := by
        rw [w1]
        exact List.mem_append_right _ (.tail _ (rw_mem me ht))
      have := small_num h0 (hw _ mw)
      refine ⟨h0, Int.lt_trans this (by decide)⟩
  · obtain ⟨t', ht', e, he, p, e1, e2⟩ := wof_mem (show (t.1, t.2) ∈ _ from ht)
    exact ⟨t'.1, List.mem_map_of_mem (f := (·.1)) ht', e.1, (List.of_mem_zip (show (e.1, e.2) ∈ _ from he)).1, e1⟩
  · obtain ⟨t', ht', e, he, p, e1, e2⟩ := wof_mem (show (t.1, t.2) ∈ _ from ht)
    rw [e2]
    exact p
/-- few names are names of a table -/
theorem Up.ok {ns : List Str} (u : Up "" ns) (l : ns.length ≤ 6) : NamesOk ns := ⟨u.nod, fun n hn => ⟨n, rfl, by have := name_len (u.1 n hn); rw [sizeLine_eq]; omega, u.1 n hn⟩, l⟩
end Wd

set_option Elab.async false
set_option linter.all false
set_option maxRecDepth 100000
set_option maxHeartbeats 4000000
set_option autoImplicit false
/-! _law_bent. -/
namespace L2
open PySem PySem.Spec PyProof.Rows
/-- text times int -/
theorem op_mulS {X : Cx} : OpR X (binaryOp .Mult) (fun x y H Q => ∃ z n, x = .str z ∧ y = .int n ∧ MulOk z n ∧ Q (.str (Txt.mul z n)) H) := by
  intro pins s σ H x y v u Q I rx ry h
  obtain ⟨z, n, rfl, rfl, ok, q⟩ := h
  obtain ⟨t, rfl⟩ := rx
  obtain ⟨t', rfl⟩ := ry
  exact SB.mul ok fun t2 k => ⟨.str _, H, I.tok _, ⟨_, rfl⟩, q⟩
end L2
namespace Wd
open PySem PySem.NumText PySem.Spec PyProof.Rows L2 EvP Cm Fk
open Dg hiding numT
open K06 (Pen But spDraw spPick)
/-- words that the law bends: at most n -/
structure Wb (n : Nat) (ww : List Str) : Prop where
  ne : ww ≠ []
  few : ww.length ≤ n
  wd : ∀ p ∈ ww, p.length ≤ 31 ∧ 32 ∉ tl p ∧ (∀ c ∈ tl p, c < 128) ∧ p ≠ "|"
def oddL : List Str := ["", ":", ";", "a", "q", "zz", "none", "self", "A", "0", "3", "-1", "03", Txt.mul "9" 31, "x", "b", "7\n"]
theorem oddL_ok : ∀ o ∈ oddL, o.length ≤ 31 ∧ 32 ∉ tl o ∧ (∀ c ∈ tl o, c < 128) ∧ o ≠ "|" := by decide +kernel
theorem aa_ok : ∀ o ∈ (["aa", "ab"] : List Str), o.length ≤ 31 ∧ 32 ∉ tl o ∧ (∀ c ∈ tl o, c < 128) ∧ o ≠ "|" := by decide +kernel
theorem cutV_pre (xs : List V) (k : Nat) : cutV xs none (some (k : Int)) = xs.take k := by
  show (xs.drop 0).take (HT.sIx xs.length xs.length (some (k : Int)) - 0) = _
  rw [HT.sIx_nat, List.drop_zero, Nat.sub_zero]
  by_cases c : k ≤ xs.length
  · rw [Nat.min_eq_left c]
  · rw [Nat.min_eq_right (by omega), List.take_of_length_le (Nat.le_refl _), List.take_of_length_le (by omega)]
theorem cutV_suf (xs : List V) (k : Nat) : cutV xs (some (k : Int)) none = xs.drop k := by
  show (xs.drop (HT.sIx xs.length 0 (some (k : Int)))).take (xs.length - HT.sIx xs.length 0 (some (k : Int))) = _
  rw [HT.sIx_nat, List.take_of_length_le (by rw [List.length_drop]; omega)]
  by_cases c : k ≤ xs.length
  · rw [Nat.min_eq_left c]
  · rw [Nat.min_eq_right (by omega), List.drop_length, List.drop_eq_nil_of_le (by omega)]
section
variable {K : PySem.W.Frag} {σ : L2.St} {H : Hp} {ta tb te : TE} {xs ys : List V}
theorem g_pre {k : Nat} (h : EvP.Gives ta σ H (lstV xs)) (i : EvP.Gives te σ H (is (.int (k : Nat)))) : EvP.Gives (tSl (rSlL K) ta tNoPart (tPart te)) σ H (lstV (xs.take k)) := fun H1 e Q q =>
  h H1 e _ fun v H2 e2 ⟨a, ev, ha⟩ => i H2 (e.trans e2) _ fun u H3 e3 eu => ⟨_, eu, a, xs, ev, SqL.of (e3 _ _ ha), fun p hp => q _ _ ((e2.trans e3).trans (Ex.new hp)) ⟨p, rfl, by rw [upd_same, cutV_pre xs k]⟩⟩
theorem g_suf {k : Nat} (h : EvP.Gives ta σ H (lstV xs)) (i : EvP.Gives te σ H (is (.int (k : Nat)))) : EvP.Gives (tSl (rSlL K) ta (tPart te) tNoPart) σ H (lstV (xs.drop k)) := fun H1 e Q q =>
  h H1 e _ fun v H2 e2 ⟨a, ev, ha⟩ => i H2 (e.trans e2) _ fun u H3 e3 eu => ⟨_, eu, a, xs, ev, SqL.of (e3 _ _ ha), fun p hp => q _ _ ((e2.trans e3).trans (Ex.new hp)) ⟨p, rfl, by rw [upd_same, cutV_suf xs k]⟩⟩
theorem g_catV (h : EvP.Gives ta σ H (lstV xs)) (k : EvP.Gives tb σ H (lstV ys)) (hz : xs.length + ys.length ≤ sizeLine) : EvP.Gives (tOp rCat ta tb) σ H (lstV (xs ++ ys)) :=
  g_op h k fun x y H1 e ⟨a, ex, ha⟩ ⟨b, ey, hb⟩ Q q => ⟨a, b, xs, ys, ex, ey, ha, hb, hz, fun p hp => q _ _ (Ex.new hp) ⟨p, rfl, upd_same⟩⟩
theorem g_up {i : Nat} {m c : Nat} (h : σ[i]? = some (some (.int (m : Nat)))) : EvP.Gives (tOp (rI0 fun i j => .int (i + j)) (tVar i) (tC (.int (c : Nat)))) σ H (is (.int ((m + c : Nat) : Int))) := fun H1 e Q q => ⟨_, h, _, _, rfl, rfl, q _ _ (Ex.refl _) rfl⟩
/-- l[i] -/
theorem g_at_ {i : Nat} {x : V} (h : EvP.Gives ta σ H (lstV xs)) (k : EvP.Gives te σ H (is (.int (i : Nat)))) (hx : xs[i]? = some x) : EvP.Gives (tOp (rIxL K) ta te) σ H (is x) :=
  g_op h k fun y z H1 e ⟨a, ex, ha⟩ ez Q q => ⟨a, xs, _, x, ex, ez, SqL.of ha, at_of (j := i) rfl hx, q _ _ (Ex.refl _) rfl⟩
end
abbrev sBent : Stmt := top 52
def NB : List Str := ["pen", "words", "menu", "at", "word", "way"]
theorem scBent : FnScope NB ["pen", "words"] (defScope sBent) := ⟨rfl, rfl, rfl, by decide +kernel, rfl, by decide +kernel, by decide +kernel⟩
def spBent : Sp := fun vs H Q _ => ∃ (p q : Addr) (ns : List Int) (s g : Int) (l : Addr) (ww : List Str) (n : Nat), vs = [.ref p, .ref l] ∧ Pen H p q ns s g ∧ ns.length ≤ 63 ∧ 0 ≤ s ∧ s < 99000 ∧ H l = some (.lst (ww.map V.str)) ∧ Wb n ww ∧ n ≤ 60 ∧
  ∀ (r : Addr) (ww' : List Str) (s' g' : Int) (H' : Hp), H' r = some (.lst (ww'.map V.str)) → Wb (n + 2) ww' → s ≤ s' → s' ≤ s + 4 → Pen H' p q ns s' g' → But p H H' → Q (.ref r) H'
section
variable {P : Program} {w : World} {K : PySem.W.Frag} {mg : Str → Option Value} {base : Heap} {f fD fP : Addr} {fd fdD fdP : FuncData}
theorem ok_bent (F : Fun K "_law_bent" "_law_bent" sBent f fd) (T : Fk.Blt mg) (G : FnOk P w K mg base CX0 1 fD fdD ["pen", "many"] spDraw) (b : Binds K fdD ["pen", "many"] []) (gD : mg "_law_draw" = some (.ref fD)) (kD : PySem.W.keepIn K (.ref fD) = true)
    (GP : FnOk P w K mg base CX0 2 fP fdP ["pen", "some"] spPick) (bP : Binds K fdP ["pen", "some"] []) (gP : mg "_law_pick" = some (.ref fP)) (kP : PySem.W.keepIn K (.ref fP) = true) : FnOk P w K mg base CX0 3 f fd ["pen", "words"] spBent := by
  have nd := scBent.nd
  refine F.ok scBent (fun vs H Q E h => ?_) (fun cdv A outer s0 H vs Q E hr h => ?_)
  · obtain ⟨p, q, ns, s, g, l, ww, n, rfl, _⟩ := h
    rfl
  · obtain ⟨p, q, ns, s, g, l, ww, n, rfl, hP, hl, h0, h1, hW, bd, hn, k⟩ := h
    refine ⟨_, pss_cons (ps_set (i := 2) nd rfl (Or.inl rfl) (pe_lst (pa_cons pe_str (pa_cons pe_str (pa_cons pe_str (pa_cons pe_str (pa_cons pe_str (pa_cons pe_str (pa_cons pe_str (pa_cons pe_str (pa_cons pe_str (pa_cons pe_str (pa_cons pe_str (pa_cons pe_str (pa_cons pe_str (pa_cons (pe_op op_mulS pe_str pe_int) (pa_cons pe_str (pa_cons pe_str (pa_cons pe_str pa_nil)))))))))))))))))))
      (pss_cons (ps_par3 (i := 3) (j := 4) (l := 5) (by rfl) nd rfl rfl rfl (by decide) (by decide) (by decide) rfl rfl rfl (pa_cons (pe_call G (hr.mono (by decide)) (by rfl) gD kD b .nil pass0 (pa_cons (pv 0) (pa_cons (pe_op op_add (pe_callB call_len_seq (by rfl) T.len PySem.boot_len (pa_cons (pv 1) pa_nil)) pe_int) pa_nil))) (pa_cons (pe_call GP hr (by rfl) gP kP bP .nil pass0 (pa_cons (pv 0) (pa_cons (pv 2) pa_nil))) (pa_cons (pe_call G (hr.mono (by decide)) (by rfl) gD kD b .nil pass0 (pa_cons (pv 0) (pa_cons pe_int pa_nil))) pa_nil))) (by rfl))
      (pss_cons (ps_if (pt_cmpR op_eq (pv 5) pe_int (nomark _)) (pss_one (ps_ret (pe_ifExp (pt_cmpR op_gt (pe_callB call_len_seq (by rfl) T.len PySem.boot_len (pa_cons (pv 1) pa_nil)) pe_int (nomark _)) (pe_op op_cat (pe_slice sl_list (pv 1) po_none (po_some (pv 3))) (pe_slice sl_list (pv 1) (po_some (pe_op op_add (pv 3) pe_int)) po_none)) (pe_lst (pa_cons (pv 4) pa_nil))))) pss_nil)
      (pss_cons (ps_if (pt_cmpR op_eq (pv 5) pe_int (nomark _)) (pss_one (ps_ret (pe_op op_cat (pe_op op_cat (pe_slice sl_list (pv 1) po_none (po_some (pv 3))) (pe_lst (pa_cons (pv 4) pa_nil))) (pe_slice sl_list (pv 1) (po_some (pv 3)) po_none)))) pss_nil)
      (pss_cons (ps_if (PW.pt (pw_and (pt_cmpR op_eq (pv 5) pe_int (nomark _)) (pw_and1 (pt_cmpR op_lt (pe_op op_add (pv 3) pe_int) (pe_callB call_len_seq (by rfl) T.len PySem.boot_len (pa_cons (pv 1) pa_nil)) (nomark _)))))
        (pss_one (ps_ret (pe_op op_cat (pe_op op_cat (pe_slice sl_list (pv 1) po_none (po_some (pv 3))) (pe_lst (pa_cons (pe_ix ix_list (pv 1) (pe_op op_add (pv 3) pe_int) (fun _ _ => rfl)) (pa_cons (pe_ix ix_list (pv 1) (pv 3) (fun _ _ => rfl)) pa_nil)))) (pe_slice sl_list (pv 1) (po_some (pe_op op_add (pv 3) pe_int)) po_none)))) pss_nil)
      (pss_cons (ps_if (pt_cmpR op_eq (pv 5) pe_int (nomark _)) (pss_one (ps_ret (pe_op op_cat (pe_lst (pa_cons pe_str (pa_cons pe_str pa_nil))) (pv 1)))) pss_nil)
      (pss_one (ps_ret (pe_op op_cat (pe_op op_cat (pe_slice sl_list (pv 1) po_none (po_some (pv 3))) (pe_lst (pa_cons (pv 4) pa_nil))) (pe_slice sl_list (pv 1) (po_some (pe_op op_add (pv 3) pe_int)) po_none))))))))), ?_⟩
    have lp : l ≠ p := fun e => by
      rw [e, hP.p] at hW
      have z := HO.lst.inj (Option.some.inj hW)
      cases hh : ww with
      | nil => exact bd.ne hh
      | cons x r =>
        rw [hh] at z
        cases (List.cons.inj z).1
    have lq : l ≠ q := fun e => by
      rw [e, hP.q] at hW
      have z := HO.lst.inj (Option.some.inj hW)
      cases hh : ww with
      | nil => exact bd.ne hh
      | cons x r =>
        rw [hh] at z
        cases ns with
        | nil => cases z
        | cons y t => cases (List.cons.inj z).1
    have lw : 0 < ww.length := List.length_pos_iff.mpr bd.ne
    have few := bd.few
    have len : (((ww.map V.str)).length : Nat) = ww.length := List.length_map ..
    -- menu
    refine ⟨"9", 31, rfl, rfl, ⟨rfl, fun _ _ => by decide +kernel, fun _ _ => by decide +kernel⟩, by show 17 ≤ sizeLine; decide, fun l2 hl2 => ?_⟩
    have lp2 : l2 ≠ p := (ne_of_none hP.p hl2).symm
    have e0 := Ex.new (o := .lst (oddL.map V.str)) hl2
    have hM : upd H l2 (.lst (oddL.map V.str)) l2 = some (.lst (oddL.map V.str)) := upd_same
    have hP1 : Pen (upd H l2 (.lst (oddL.map V.str))) p q ns s g := ⟨e0 _ _ hP.p, e0 _ _ hP.q⟩
    have hW1 := e0 _ _ hW
    refine ⟨_, rfl, _, rfl, l, _, rfl, .inl (SqL.of hW1), _, _, rfl, rfl, p, q, ns, s, g, _, rfl, hP1, hl, h0, by omega, by rw [len]; omega, by rw [len]; omega, fun spot s2 g2 H2 a0 a1 b0 b1 hP2 hB2 => ?_⟩
    rw [len] at a1
    refine ⟨_, rfl, _, rfl, p, q, ns, s2, g2, l2, oddL.map V.str, rfl, hP2, hl, by omega, by omega, hB2 l2 _ hM lp2, lp2, by show 0 < 17; decide, by show 17 < 100000; decide, fun v s3 g3 H3 hv c0 c1 hP3 hB3 => ?_⟩
    obtain ⟨o, ho, rfl⟩ := List.mem_map.mp hv
    have oo := oddL_ok o ho
    refine ⟨_, rfl, p, q, ns, s3, g3, _, rfl, hP3, hl, by omega, by omega, by decide, by decide, fun way s4 g4 H4 d0 d1 f0 f1 hP4 hB4 => ?_⟩
    refine ⟨_, _, _, rfl, ?_⟩
    have hW4 := hB4 l _ (hB3 l _ (hB2 l _ hW1 lp) lp) lp
    have b4 : But p H H4 := fun b x hb nb => hB4 b x (hB3 b x (hB2 b x (e0 _ _ hb) nb) nb) nb
    obtain ⟨S, rfl⟩ : ∃ S : Nat, spot = S := ⟨spot.toNat, by omega⟩
    have hS : S ≤ ww.length := by omega
    have szl : ww.length ≤ sizeLine := by rw [sizeLine_eq]; omega
    have mapT : ∀ m, (ww.map V.str).take m = (ww.take m).map V.str := fun m => (List.map_take ..).symm
    have mapD : ∀ m, (ww.map V.str).drop m = (ww.drop m).map V.str := fun m => (List.map_drop ..).symm
    have gW : ∀ {σ : L2.St} {H5 : Hp}, Ex H4 H5 → σ[1]? = some (some (.ref l)) → EvP.Gives (tVar 1) σ H5 (lstV (ww.map V.str)) := fun e5 h => EvP.varP h ⟨l, rfl, e5 _ _ hW4⟩
    have lt : ∀ m, (ww.take m).length ≤ ww.length := fun m => by rw [List.length_take]; omega
    have ld : ∀ m, (ww.drop m).length ≤ ww.length := fun m => by rw [List.length_drop]; omega
    have fit : ∀ a b : List Str, a.length ≤ 200 → b.length ≤ 200 → (a.map V.str).length + (b.map V.str).length ≤ sizeLine := fun a b ha hb => by
      rw [List.length_map, List.length_map, sizeLine_eq]
      omega
    -- what is told of a list of words
    have done : ∀ (ys : List Str) (v : V) (H5 : Hp), Ex H4 H5 → (lstV (ys.map V.str)).R v H5 → ys ≠ [] → ys.length ≤ n + 2 → (∀ p ∈ ys, p ∈ ww ∨ p = o ∨ p ∈ (["aa", "ab"] : List Str)) → Q v H5 := fun ys v H5 e5 ⟨r, ev, hr⟩ y1 y2 y3 => by
      subst ev
      refine k r ys s4 g4 H5 hr ⟨y1, y2, fun p hp => ?_⟩ (by omega) (by omega) ⟨e5 _ _ hP4.p, e5 _ _ hP4.q⟩ fun b x hb nb => e5 _ _ (b4 b x hb nb)
      rcases y3 p hp with h | h | h
      · exact bd.wd p h
      · rw [h]
        exact oo
      · exact aa_ok p h
    have one : ∀ {σ : L2.St}, σ[4]? = some (some (.str o)) → EvP.Gives (tLst (tCons (tVar 4) tNil)) σ H4 (lstV (([o] : List Str).map V.str)) := fun h =>
      Fk.Gives.imp (EvP.list (H0 := H4) (Ps := ([V.str o] : List V).map is) (Ex.refl _) (EvP.cons (EvP.var h) EvP.nil) (by show 1 ≤ 1000; decide)) fun v H h => lst_is h
    refine ⟨_, rfl, rfl, _, rfl, ?_⟩
    by_cases w0 : way = 0
    · rw [decide_eq_true (congrArg V.int w0)]
      refine ⟨_, rfl, l, _, rfl, .inl (SqL.of hW4), _, _, rfl, rfl, _, rfl, ?_⟩
      rw [len]
      by_cases c1 : 1 < ww.length
      · rw [decide_eq_true (show (1 : Int) < (ww.length : Nat) by omega)]
        have gz : EvP.Gives (tOp rCat (tSl (rSlL K) (tVar 1) tNoPart (tPart (tVar 3))) (tSl (rSlL K) (tVar 1) (tPart (tOp (rI0 fun i j => .int (i + j)) (tVar 3) (tC (.int 1)))) tNoPart)) [some (.ref p), some (.ref l), some (.ref l2), some (.int (S : Nat)), some (.str o), some (.int way)] H4 (lstV ((ww.take S ++ ww.drop (S + 1)).map V.str)) := by
          rw [List.map_append]
          refine g_catV ?_ ?_ (fit _ _ (by have := lt S; omega) (by have := ld (S + 1); omega))
          · rw [← mapT]
            exact g_pre (gW (Ex.refl _) rfl) (EvP.var rfl)
          · rw [← mapD]
            exact g_suf (gW (Ex.refl _) rfl) (g_up (c := 1) rfl)
        refine EvP.go gz fun v H5 e5 hv => done _ v H5 e5 hv (fun z => ?_) (by rw [List.length_append, List.length_take, List.length_drop]; omega) (fun p hp => .inl ?_)
        · have := congrArg List.length z
          rw [List.length_append, List.length_take, List.length_drop, List.length_nil] at this
          omega
        · rcases List.mem_append.mp hp with hp | hp
          · exact List.mem_of_mem_take hp
          · exact List.mem_of_mem_drop hp
      · rw [decide_eq_false (show ¬ (1 : Int) < (ww.length : Nat) by omega)]
        refine EvP.go (one rfl) fun v H5 e5 hv => done _ v H5 e5 hv (List.cons_ne_nil _ _) (by show 1 ≤ n + 2; omega) (fun p hp => .inr (.inl (List.mem_singleton.mp hp)))
    rw [decide_eq_false (fun z => w0 (V.int.inj z))]
    refine ⟨_, rfl, rfl, _, rfl, ?_⟩
    by_cases w1 : way = 1
    · rw [decide_eq_true (congrArg V.int w1)]
      have gz : EvP.Gives (tOp rCat (tOp rCat (tSl (rSlL K) (tVar 1) tNoPart (tPart (tVar 3))) (tLst (tCons (tVar 4) tNil))) (tSl (rSlL K) (tVar 1) (tPart (tVar 3)) tNoPart)) [some (.ref p), some (.ref l), some (.ref l2), some (.int (S : Nat)), some (.str o), some (.int way)] H4 (lstV (((ww.take S ++ [o]) ++ ww.drop S).map V.str)) := by
        rw [List.map_append]
        refine g_catV ?_ ?_ (fit _ _ (by rw [List.length_append]; have := lt S; show _ + 1 ≤ 200; omega) (by have := ld S; omega))
        · rw [List.map_append]
          refine g_catV ?_ (one rfl) (fit _ _ (by have := lt S; omega) (by show 1 ≤ 200; decide))
          rw [← mapT]
          exact g_pre (gW (Ex.refl _) rfl) (EvP.var rfl)
        · rw [← mapD]
          exact g_suf (gW (Ex.refl _) rfl) (EvP.var rfl)
      refine EvP.go gz fun v H5 e5 hv => done _ v H5 e5 hv (by simp) (by rw [List.length_append, List.length_append, List.length_take, List.length_drop]; show _ + 1 + _ ≤ _; omega) (fun p hp => ?_)
      rcases List.mem_append.mp hp with hp | hp
      · rcases List.mem_append.mp hp with hp | hp
        · exact .inl (List.mem_of_mem_take hp)
        · exact .inr (.inl (List.mem_singleton.mp hp))
      · exact .inl (List.mem_of_mem_drop hp)
    rw [decide_eq_false (fun z => w1 (V.int.inj z))]
    dsimp only [tNext]
    rw [if_neg Bool.false_ne_true]
    refine Tb.st_ifB (b := decide (way = 2) && decide (S + 1 < ww.length)) ?_ (fun cT H5 e5 => ?_) (fun cF H5 e5 => ?_)
    · intro H5 e5 Q5 q5
      refine ⟨_, rfl, rfl, _, rfl, ?_⟩
      by_cases w2 : way = 2
      · rw [decide_eq_true (congrArg V.int w2)]
        rw [decide_eq_true w2, Bool.true_and] at q5
        refine ⟨_, rfl, _, _, rfl, rfl, _, rfl, l, _, rfl, .inl (SqL.of (e5 _ _ hW4)), _, _, rfl, rfl, _, rfl, ?_⟩
        rw [len]
        have : decide (((S : Nat) : Int) + 1 < (ww.length : Nat)) = decide (S + 1 < ww.length) := by
          rw [decide_eq_decide]
          omega
        rw [this]
        exact q5 _ (Ex.refl _)
      · rw [decide_eq_false (fun z => w2 (V.int.inj z))]
        rw [decide_eq_false w2, Bool.false_and] at q5
        exact q5 _ (Ex.refl _)
    · rw [Bool.and_eq_true, decide_eq_true_eq, decide_eq_true_eq] at cT
      obtain ⟨_, c2⟩ := cT
      have i1 : ww[S + 1]? = some ww[S + 1] := List.getElem?_eq_getElem c2
      have i0 : ww[S]? = some ww[S] := List.getElem?_eq_getElem (by omega)
      have gz : EvP.Gives (tOp rCat (tOp rCat (tSl (rSlL K) (tVar 1) tNoPart (tPart (tVar 3))) (tLst (tCons (tOp (rIxL K) (tVar 1) (tOp (rI0 fun i j => .int (i + j)) (tVar 3) (tC (.int 1)))) (tCons (tOp (rIxL K) (tVar 1) (tVar 3)) tNil)))) (tSl (rSlL K) (tVar 1) (tPart (tOp (rI0 fun i j => .int (i + j)) (tVar 3) (tC (.int 2)))) tNoPart)) [some (.ref p), some (.ref l), some (.ref l2), some (.int (S : Nat)), some (.str o), some (.int way)] H5 (lstV (((ww.take S ++ [ww[S + 1], ww[S]]) ++ ww.drop (S + 2)).map V.str)) := by
        rw [List.map_append]
        refine g_catV ?_ ?_ (fit _ _ (by rw [List.length_append]; have := lt S; show _ + 2 ≤ 200; omega) (by have := ld (S + 2); omega))
        · rw [List.map_append]
          refine g_catV ?_ ?_ (fit _ _ (by have := lt S; omega) (by show 2 ≤ 200; decide))
          · rw [← mapT]
            exact g_pre (gW e5 rfl) (EvP.var rfl)
          · refine Fk.Gives.imp (EvP.list (H0 := H5) (Ps := ([V.str ww[S + 1], V.str ww[S]] : List V).map is) (Ex.refl _) (EvP.cons (g_at_ (gW e5 rfl) (g_up (c := 1) rfl) (by rw [List.getElem?_map, i1]; rfl)) (EvP.cons (g_at_ (gW e5 rfl) (EvP.var rfl) (by rw [List.getElem?_map, i0]; rfl)) EvP.nil)) (by show 2 ≤ 1000; decide)) fun v H h => lst_is h
        · rw [← mapD]
          exact g_suf (gW e5 rfl) (g_up (c := 2) rfl)
      refine EvP.go gz fun v H6 e6 hv => done _ v H6 (e5.trans e6) hv (by simp) (by rw [List.length_append, List.length_append, List.length_take, List.length_drop]; show _ + 2 + _ ≤ _; omega) (fun p hp => .inl ?_)
      rcases List.mem_append.mp hp with hp | hp
      · rcases List.mem_append.mp hp with hp | hp
        · exact List.mem_of_mem_take hp
        · rcases List.mem_cons.mp hp with rfl | hp
          · exact List.getElem_mem _
          · rw [List.mem_singleton.mp hp]
            exact List.getElem_mem _
      · exact List.mem_of_mem_drop hp
    refine ⟨_, rfl, rfl, _, rfl, ?_⟩
    by_cases w3 : way = 3
    · rw [decide_eq_true (congrArg V.int w3)]
      have gz : EvP.Gives (tOp rCat (tLst (tCons (tC (.str "aa")) (tCons (tC (.str "ab")) tNil))) (tVar 1)) [some (.ref p), some (.ref l), some (.ref l2), some (.int (S : Nat)), some (.str o), some (.int way)] H5 (lstV (((["aa", "ab"] : List Str) ++ ww).map V.str)) := by
        rw [List.map_append]
        refine g_catV ?_ (gW e5 rfl) (fit _ _ (by show 2 ≤ 200; decide) (by omega))
        exact Fk.Gives.imp (EvP.list (H0 := H5) (Ps := ([V.str "aa", V.str "ab"] : List V).map is) (Ex.refl _) (EvP.cons EvP.cst (EvP.cons EvP.cst EvP.nil)) (by show 2 ≤ 1000; decide)) fun v H h => lst_is h
      refine EvP.go gz fun v H6 e6 hv => done _ v H6 (e5.trans e6) hv (by simp) (by rw [List.length_append]; show 2 + _ ≤ _; omega) (fun p hp => ?_)
      rcases List.mem_append.mp hp with hp | hp
      · exact .inr (.inr hp)
      · exact .inl hp
    rw [decide_eq_false (fun z => w3 (V.int.inj z))]
    have one5 : EvP.Gives (tLst (tCons (tVar 4) tNil)) [some (.ref p), some (.ref l), some (.ref l2), some (.int (S : Nat)), some (.str o), some (.int way)] H5 (lstV (([o] : List Str).map V.str)) :=
      Fk.Gives.imp (EvP.list (H0 := H5) (Ps := ([V.str o] : List V).map is) (Ex.refl _) (EvP.cons (EvP.var rfl) EvP.nil) (by show 1 ≤ 1000; decide)) fun v H h => lst_is h
    have gz : EvP.Gives (tOp rCat (tOp rCat (tSl (rSlL K) (tVar 1) tNoPart (tPart (tVar 3))) (tLst (tCons (tVar 4) tNil))) (tSl (rSlL K) (tVar 1) (tPart (tOp (rI0 fun i j => .int (i + j)) (tVar 3) (tC (.int 1)))) tNoPart)) [some (.ref p), some (.ref l), some (.ref l2), some (.int (S : Nat)), some (.str o), some (.int way)] H5 (lstV (((ww.take S ++ [o]) ++ ww.drop (S + 1)).map V.str)) := by
      rw [List.map_append]
      refine g_catV ?_ ?_ (fit _ _ (by rw [List.length_append]; have := lt S; show _ + 1 ≤ 200; omega) (by have := ld (S + 1); omega))
      · rw [List.map_append]
        refine g_catV ?_ one5 (fit _ _ (by have := lt S; omega) (by show 1 ≤ 200; decide))
        rw [← mapT]
        exact g_pre (gW e5 rfl) (EvP.var rfl)
      · rw [← mapD]
        exact g_suf (gW e5 rfl) (g_up (c := 1) rfl)
    refine EvP.go gz fun v H6 e6 hv => done _ v H6 (e5.trans e6) hv (by simp) (by rw [List.length_append, List.length_append, List.length_take, List.length_drop]; show _ + 1 + _ ≤ _; omega) (fun p hp => ?_)
    rcases List.mem_append.mp hp with hp | hp
    · rcases List.mem_append.mp hp with hp | hp
      · exact .inl (List.mem_of_mem_take hp)
      · exact .inr (.inl (List.mem_singleton.mp hp))
    · exact .inl (List.mem_of_mem_drop hp)
end
end Wd

set_option Elab.async false
set_option linter.all false
set_option maxRecDepth 100000
set_option maxHeartbeats 4000000
set_option autoImplicit false
/-! _law_text. -/
namespace Wd
open PySem PySem.NumText PySem.Spec PyProof.Rows L2 EvP Cm Fk
open Dg hiding numT
open K06 (Pen But PlainAt PlainOk CalD spNms NamesOk)
open DtE (TRow tents)
open Tb (key2 wk rowW Wks)
abbrev rJoinL (K : PySem.W.Frag) : V → List V → Hp → VK → Prop := fun x xs H Q => ∃ a p, ∃ ys : List Str, x = .str a ∧ xs = [.ref p] ∧ (SqL K H p (ys.map V.str) ∨ SqT K H p (ys.map V.str)) ∧ (ys.map (·.length)).sum + ys.length * a.length ≤ 16777216 ∧ Q (.str (Txt.join a ys)) H
abbrev rInt1 : List V → Hp → VK → Prop := fun xs H Q => (∃ i, xs = [.int i] ∧ Q (.int i) H) ∨ ∃ k, xs = [.bl k] ∧ Q (.int (if k then 1 else 0)) H
abbrev rStrI : List V → Hp → VK → Prop := fun xs H Q => ∃ i, xs = [.int i] ∧ i.natAbs.log2 < 1920 ∧ Q (.str (toString i)) H
section
variable {K : PySem.W.Frag} {σ : L2.St} {H : Hp} {ta tb te : TE} {xs ys : List V}
theorem g_join {sep : Str} {ss : List Str} (h : EvP.Gives ta σ H (lstV (ss.map V.str))) (hz : (ss.map (·.length)).sum + ss.length * sep.length ≤ 16777216) : EvP.Gives (tM1 (rJoinL K) (tC (.str sep)) ta) σ H (is (.str (Txt.join sep ss))) := fun H1 e Q q =>
  ⟨⟨_, rfl⟩, h H1 e _ fun v H2 e2 ⟨a, ev, ha⟩ => ⟨sep, a, ss, rfl, by rw [ev], .inl (SqL.of ha), hz, q _ _ e2 rfl⟩⟩
theorem g_one {x : V} (h : EvP.Gives te σ H (is x)) : EvP.Gives (tLst (tCons te tNil)) σ H (lstV [x]) :=
  Fk.Gives.imp (EvP.list (H0 := H) (Ps := ([x] : List V).map is) (Ex.refl _) (EvP.cons h EvP.nil) (by show 1 ≤ 1000; decide)) fun v H h => lst_is h
theorem g_rep {b : Bool} {x : V} (h : EvP.Gives ta σ H (lstV [x])) (k : EvP.Gives tb σ H (is (.int (if b = true then 1 else 0)))) : EvP.Gives (tOp rRep ta tb) σ H (lstV (if b = true then [x] else [])) :=
  g_op h k fun y z H1 e ⟨a, ey, ha⟩ ez Q q => by
    subst ey
    have ez : z = .int (if b = true then 1 else 0) := ez
    subst ez
    refine ⟨a, _, [x], rfl, rfl, ha, ?_, ?_, ?_, fun p hp => ?_⟩
    · cases b <;> decide
    · cases b <;> decide
    · cases b
      · show 1 * 0 ≤ sizeLine
        decide
      · show 1 * 1 ≤ sizeLine
        decide
    · cases b with
      | true => exact q _ _ (Ex.new hp) ⟨p, rfl, upd_same⟩
      | false => exact q _ _ (Ex.new hp) ⟨p, rfl, upd_same⟩
end
theorem join_asc {l : List Str} (h : ∀ p ∈ l, ∀ c ∈ tl p, c < 128) : ∀ c ∈ tl (Txt.join sp l), c < 128 := by
  rw [TL.join_eq]
  induction l with
  | nil => intro c hc; exact absurd hc (by show ¬ c ∈ ([] : List Nat); simp)
  | cons a r ih =>
    cases r with
    | nil => exact h a (.head _)
    | cons b r =>
      intro c hc
      have hc : c ∈ (a ++ sp ++ Str.join sp (b :: r)).cps.toList := hc
      rw [app_cps, app_cps] at hc
      rcases List.mem_append.mp hc with hc | hc
      · rcases List.mem_append.mp hc with hc | hc
        · exact h a (.head _) c hc
        · have : c ∈ [32] := hc
          rw [List.mem_singleton] at this
          omega
      · exact ih (fun p hp => h p (.tail _ hp)) c hc
theorem name_asc {x : Str} (h : nameB x = true) : ∀ c ∈ tl x, c < 128 := fun c hc => by
  unfold nameB at h
  simp only [Bool.and_eq_true] at h
  have a := h.1.1.2
  unfold Txt.isascii at a
  rw [← Array.all_toList, List.all_eq_true] at a
  exact of_decide_eq_true (a c hc)
theorem num_asc {n : Int} (h : 0 ≤ n) : ∀ c ∈ tl (numT n), c < 128 := fun c hc => by
  have : c ∈ (Dg.numT n).cps.toList := hc
  rw [numT_cps h] at this
  have := dl_digits _ c this
  omega
/-- rows of a plain table: their texts -/
theorem rowJ_eq {s : Str} {us : List Str} {r : TRow} : rowJ (s, us.map fun u => wk r (key2 s u)) = Txt.join sp (rowW s us r) := by
  unfold rowJ rowW
  rw [List.map_map]
  rfl
theorem glued_len (a : Str) (l : List Str) : (Txt.join a l).length ≤ (l.map (·.length)).sum + l.length * a.length := by
  show (Builtin.Str.glued _ _).length ≤ _
  rw [PySem.size_glued]
  have : (l.length - 1) * a.length ≤ l.length * a.length := Nat.mul_le_mul_right _ (Nat.sub_le _ _)
  omega
abbrev sText : Stmt := top 46
def NTx : List Str := ["plain", "uses_so", "rows_so", "source", "use"]
theorem scText : FnScope NTx ["plain"] (defScope sText) := ⟨rfl, rfl, rfl, by decide +kernel, rfl, by decide +kernel, by decide +kernel⟩
def spText : Sp := fun vs H Q _ => ∃ (v : V) (ss xs : List Str) (r : TRow), vs = [v] ∧ PlainAt H v ss xs r ∧ PlainOk ss xs r ∧ ∀ H', Ex H H' → Q (.str (Txt.join sp (tblW (srt xs) (rsP ss xs r)))) H'
section
variable {P : Program} {w : World} {K : PySem.W.Frag} {mg : Str → Option Value} {base : Heap} {f : Addr} {fd : FuncData}
theorem ok_text (F : Fun K "_law_text" "_law_text" sText f fd) (T : Fk.Blt mg) (DN : CalD P w K mg base 1 "_law_names" ["names_so"] spNms) : FnOk P w K mg base CX0 2 f fd ["plain"] spText := by
  have nd := scText.nd
  refine F.ok scText (fun vs H Q E h => ?_) (fun cdv A outer s0 H vs Q E hr h => ?_)
  · obtain ⟨v, ss, xs, r, rfl, _⟩ := h
    rfl
  · obtain ⟨v, ss, xs, r, rfl, hp, ok, q⟩ := h
    have hu := hu_of hr
    refine ⟨_, pss_cons (ps_par (i := 1) (j := 2) (by rfl) nd rfl rfl (by decide) rfl rfl (pa_cons (pe_call DN.ok hr (by rfl) DN.g DN.kp DN.b .nil pass0 (pa_cons (pe_ix ix_tup (pv 0) pe_int (fun _ _ => rfl)) pa_nil)) (pa_cons (pe_lst pa_nil) pa_nil)) (by rfl))
      (pss_cons (ps_for PassesOwn.never rfl (pi_list (pe_call DN.ok hr (by rfl) DN.g DN.kp DN.b .nil pass0 (pa_cons (pe_ix ix_tup (pv 0) pe_int (fun _ _ => rfl)) pa_nil))) (pg_name (i := 3) nd rfl (Or.inr rfl))
        (pss_one (ps_expr (pe_bm PySem.F.plainAttrs_list PySem.F.slot_list_append PySem.F.type_list_append mt_append (pv 2) (pa_cons (pe_join pe_str (pe_op op_cat (pe_lst (pa_cons (pv 3) pa_nil))
          (pe_lc (own := [("use", 4)]) (g := gName 4) (tt := tYes) (te := tCB rStrI (tCons (tDGet2 (tOp (rIxT K) (tVar 0) (tC (.int 2))) (tTup (tCons (tVar 3) (tCons (tVar 4) tNil))) (tC (.int 0))) tNil)) rfl nd (pi_list (pv 1)) (blkOk_by (N := NTx) (sc := defScope sText) (by decide +kernel))
            (fun _ _ _ _ _ => pg_name (i := 4) nd rfl (Or.inl rfl)) (fun _ _ _ _ _ => pts_nil) (fun _ _ _ _ _ => by exact pe_callTy (T := "str") call_str_int (by rfl) T.str (by decide +kernel) (pa_cons (pe_dget2 hu (pe_ix ix_tup (pv 0) pe_int (fun _ _ => rfl)) (pe_tup (pa_cons (pv 3) (pa_cons (pv 4) pa_nil))) pe_int ⟨rfl, rfl, rfl, rfl⟩) pa_nil))))) pa_nil)))))
      (pss_one (ps_ret (pe_join pe_str (pe_op op_cat (pe_op op_cat (pv 1) (pe_lst (pa_cons pe_str pa_nil))) (pe_op op_rep (pe_lst (pa_cons (pe_join pe_str (pv 2)) pa_nil)) (pe_callTy call_int1 (by rfl) T.int (by decide +kernel) (pa_cons (pe_cmpR (op_neD hr.units) (pv 2) (pe_lst pa_nil) (nomark _)) pa_nil)))))))), ?_⟩
    obtain ⟨t, a, b, d, rfl, ht, ha, hb, hd⟩ := hp.ex
    have us6 : xs.length ≤ 6 := ok.u.few
    have ss6 : ss.length ≤ 6 := ok.s.few
    have nn := K06.wk_nn ok.w
    have wks : Wks r := fun k => ⟨(nn k).1, Int.lt_trans (nn k).2 (by decide)⟩
    have sN := ok.s.srt
    have uN := ok.u.srt
    generalize eL : srt ss = L at *
    generalize eU : srt xs = U at *
    let φ : Str → V := fun s => V.str (rowJ (s, U.map fun u => wk r (key2 s u)))
    refine ⟨_, rfl, t, _, 1, .ref b, rfl, rfl, SqT.of ht, rfl, b, xs, rfl, hb, by omega, fun u1 H1 e1 h1 => ?_⟩
    rw [eU] at h1
    refine ⟨by show 0 ≤ sizeLine; decide, fun rl nrl => ?_⟩
    refine ⟨_, _, rfl, ?_⟩
    have er := Ex.new (o := .lst []) nrl
    have h1' := er _ _ h1
    have ht1 := er _ _ (e1 _ _ ht)
    have ha1 := er _ _ (e1 _ _ ha)
    have hd1 := er _ _ (e1 _ _ hd)
    have hr1 : upd H1 rl (.lst []) rl = some (.lst []) := upd_same
    have e11 := e1.trans er
    have rnew : ∀ c o, H c = some o → c ≠ rl := fun c o hc => ne_of_none (e1 _ _ hc) nrl
    have unew : u1 ≠ rl := ne_of_none h1 nrl
    generalize upd H1 rl (.lst []) = H2 at h1' ht1 ha1 hd1 hr1 e11 ⊢
    refine ⟨_, rfl, t, _, 0, .ref a, rfl, rfl, SqT.of ht1, rfl, a, ss, rfl, ha1, by omega, fun l H3 e3 h3 => ?_⟩
    rw [eL] at h3
    have nL : L.length ≤ 6 := sN.few
    have nU : U.length ≤ 6 := uN.few
    have jl : ∀ s ∈ L, (rowJ (s, U.map fun u => wk r (key2 s u))).length ≤ 420 ∧ ((rowW s U r).map (·.length)).sum ≤ 400 ∧ (rowW s U r).length ≤ 7 := fun s hs => by
      obtain ⟨b1, b2⟩ := Tb.rowW_sum (r := r) (xs := U) (sN.nm s hs) nU wks
      rw [rowJ_eq]
      have := glued_len sp (rowW s U r)
      have e1 : sp.length = 1 := rfl
      rw [e1] at this
      exact ⟨by omega, b1, b2⟩
    have asc : ∀ s ∈ L, ∀ c ∈ tl (rowJ (s, U.map fun u => wk r (key2 s u))), c < 128 := fun s hs => by
      refine join_asc fun p hp => ?_
      rcases List.mem_cons.mp hp with rfl | hp
      · obtain ⟨y, ey, _, hb⟩ := sN.nm _ hs
        cases ey
        exact name_asc hb
      · obtain ⟨v, hv, rfl⟩ := List.mem_map.mp hp
        obtain ⟨u, _, rfl⟩ := List.mem_map.mp hv
        exact num_asc (nn _).1
    have back3 : ∀ c o, H c = some o → H3 c = some o := fun c o hc => e3 _ _ (e11 _ _ hc)
    refine ⟨l, rfl, ⟨_, SqL.of h3⟩, for_list (xs := L.map V.str) (fun j σ H' => ∃ o3 o4, σ = [some (.ref t), some (.ref u1), some (.ref rl), o3, o4] ∧ H' rl = some (.lst ((L.take j).map φ)) ∧ H' l = some (.lst (L.map V.str)) ∧ H' u1 = some (.lst (U.map V.str)) ∧ H' t = some (.tup [.ref a, .ref b, .ref d]) ∧ H' d = some (.dT (tents r)) ∧ ∀ c o, H c = some o → H' c = some o)
      ⟨_, _, rfl, e3 _ _ hr1, h3, e3 _ _ h1', e3 _ _ ht1, e3 _ _ hd1, back3⟩ (fun j σ H' _ ⟨_, _, _, _, hl, _⟩ => SqL.of hl) (fun j z σ H' hj ⟨o3, o4, es, hr, hl, hu1, ht', hd', bk⟩ => ?_) (fun σ H' ⟨o3, o4, es, hr, hl, hu1, ht', hd', bk⟩ => ?_)⟩
    · subst es
      rw [List.getElem?_map] at hj
      obtain ⟨s, hs, rfl⟩ := Option.map_eq_some_iff.mp hj
      have ms : s ∈ L := List.mem_of_getElem? hs
      obtain ⟨j1, j2, j3⟩ := jl s ms
      have lrl : l ≠ rl := fun z => by
        rw [z, hr] at hl
        have z2 := congrArg List.length (HO.lst.inj (Option.some.inj hl))
        rw [List.length_map, List.length_map, List.length_take] at z2
        have := (List.getElem?_eq_some_iff.mp hs).1
        have z3 : (L.take j).map φ = L.map V.str := HO.lst.inj (Option.some.inj hl)
        omega
      have comp : EvP.Gives (tLc (iList K (tVar 1)) (gName 4) tYes (tCB rStrI (tCons (tDGet2 (tOp (rIxT K) (tVar 0) (tC (.int 2))) (tTup (tCons (tVar 3) (tCons (tVar 4) tNil))) (tC (.int 0))) tNil)) [4]) [some (.ref t), some (.ref u1), some (.ref rl), some (.str s), o4] H' (lstV ((U.map fun u => numT (wk r (key2 s u))).map V.str)) := by
        have z := comp_is (σ := [some (.ref t), some (.ref u1), some (.ref rl), some (.str s), o4]) (H := H') (te := tCB rStrI (tCons (tDGet2 (tOp (rIxT K) (tVar 0) (tC (.int 2))) (tTup (tCons (tVar 3) (tCons (tVar 4) tNil))) (tC (.int 0))) tNil)) (tt := tYes) (i := 4) (vs := [4]) (fun _ => true) (fun v => match v with
          | .str u => V.str (numT (wk r (key2 s u)))
          | _ => .non) (walks_list (K := K) (EvP.varP (i := 1) (P := lstV (U.map V.str)) rfl ⟨u1, rfl, hu1⟩)) (by rw [List.length_map]; omega) (fun _ => rfl) (fun _ _ H2 _ Q h => h) (fun v hv _ => by
            obtain ⟨u, hu, rfl⟩ := List.mem_map.mp hv
            intro G1 f1 Q1 q1
            refine ⟨_, rfl, t, _, 2, .ref d, rfl, rfl, SqT.of (f1 _ _ ht'), rfl, d, rfl, .inr ⟨_, .inl (f1 _ _ hd')⟩, _, rfl, _, rfl, by show 2 ≤ sizeLine; decide, fun tq nq => ?_⟩
            have f2 := Ex.new (o := .tup [.str s, .str u]) nq
            refine ⟨_, DGet.t (k := key2 s u) (f2 _ _ (f1 _ _ hd')) upd_same, ?_⟩
            rw [K06.getD_wk]
            have bnd := nn (key2 s u)
            exact ⟨_, rfl, Fk.log_small bnd.1 (Int.lt_trans bnd.2 (by decide)), q1 _ _ f2 rfl⟩)
        rw [List.filter_eq_self.mpr (fun _ _ => rfl), List.map_map] at z
        rw [List.map_map]
        exact z
      have gz : EvP.Gives (tM1 (rJoinL K) (tC (.str " ")) (tOp rCat (tLst (tCons (tVar 3) tNil)) (tLc (iList K (tVar 1)) (gName 4) tYes (tCB rStrI (tCons (tDGet2 (tOp (rIxT K) (tVar 0) (tC (.int 2))) (tTup (tCons (tVar 3) (tCons (tVar 4) tNil))) (tC (.int 0))) tNil)) [4]))) [some (.ref t), some (.ref u1), some (.ref rl), some (.str s), o4] H' (is (.str (Txt.join " " (rowW s U r)))) := by
        refine g_join ?_ ?_
        · have := g_catV (g_one (te := tVar 3) (x := V.str s) (EvP.var rfl)) comp (by rw [List.length_map, List.length_map, sizeLine_eq]; show 1 + _ ≤ _; omega)
          exact this
        · show _ + _ * 1 ≤ 16777216
          omega
      refine ⟨_, rfl, Or.inl ⟨rfl, _, SqL.of hr⟩, ?_⟩
      refine EvP.go gz fun v G1 f1 ev => ?_
      have ev : v = .str (Txt.join sp (rowW s U r)) := ev
      subst ev
      refine ⟨rl, _, _, rfl, rfl, f1 _ _ hr, by rw [List.length_map, List.length_take, sizeLine_eq]; omega, _, _, rfl, ?_, ?_, ?_, ?_, ?_, fun c o hc => ?_⟩
      · rw [upd_same, List.take_add_one, hs, List.map_append]
        show _ = some (HO.lst ((L.take j).map φ ++ [φ s]))
        rw [show φ s = V.str (Txt.join sp (rowW s U r)) from congrArg V.str rowJ_eq]
      · rw [upd_ne lrl]
        exact f1 _ _ hl
      · rw [upd_ne unew]
        exact f1 _ _ hu1
      · rw [upd_ne (ne_of ht' hr fun z => nomatch z)]
        exact f1 _ _ ht'
      · rw [upd_ne (ne_of hd' hr fun z => nomatch z)]
        exact f1 _ _ hd'
      · rw [upd_ne (rnew c o hc)]
        exact f1 _ _ (bk c o hc)
    · subst es
      rw [List.length_map] at hr
      rw [List.take_length] at hr
      let rs : Rws := L.map fun s => (s, U.map fun u => wk r (key2 s u))
      have ers : rsP ss xs r = rs := by
        show (srt ss).map (fun s => (s, (srt xs).map fun u => wk r (key2 s u))) = _
        rw [eL, eU]
      have hrs : L.map φ = (rs.map rowJ).map V.str := by
        show _ = ((L.map fun s => (s, U.map fun u => wk r (key2 s u))).map rowJ).map V.str
        rw [List.map_map, List.map_map]
        rfl
      rw [hrs] at hr
      have lrs : rs.length = L.length := List.length_map ..
      have sum1 := Tb.sum_le (fun t : Str × List Int => (rowJ t).length) (n := 420) (l := rs) fun t ht => by
        obtain ⟨s, hs, rfl⟩ := List.mem_map.mp ht
        exact (jl s hs).1
      have sum2 := Tb.sum_le (fun s : Str => s.length) (n := 8) (l := U) fun s hh => Tb.name_le (uN.nm s hh)
      have e3' : ((rs.map rowJ).map (·.length)).sum = (rs.map fun t : Str × List Int => (rowJ t).length).sum := by
        rw [List.map_map]
        rfl
      have m1 : 420 * rs.length ≤ 420 * 6 := Nat.mul_le_mul_left _ (by omega)
      have m2 : 8 * U.length ≤ 8 * 6 := Nat.mul_le_mul_left _ nU
      have gr : ∀ {G}, Ex H' G → EvP.Gives (tVar 2) [some (.ref t), some (.ref u1), some (.ref rl), o3, o4] G (lstV ((rs.map rowJ).map V.str)) := fun e => EvP.varP rfl ⟨rl, rfl, e _ _ hr⟩
      have js : (Txt.join semi (rs.map rowJ)).length ≤ 2600 := by
        have := glued_len semi (rs.map rowJ)
        have e1 : semi.length = 3 := rfl
        rw [e1, e3', List.length_map] at this
        omega
      have g1 : EvP.Gives (tM1 (rJoinL K) (tC (.str " ; ")) (tVar 2)) [some (.ref t), some (.ref u1), some (.ref rl), o3, o4] H' (is (.str (Txt.join semi (rs.map rowJ)))) := g_join (gr (Ex.refl _)) (by
        rw [e3', List.length_map]
        show _ + _ * 3 ≤ 16777216
        omega)
      have emp : (!(rs.map rowJ).isEmpty) = decide (rs ≠ []) := by
        rw [List.isEmpty_map]
        cases rs with
        | nil => rfl
        | cons x y => exact (decide_eq_true (List.cons_ne_nil _ _)).symm
      have g2 : EvP.Gives (tCB rInt1 (tCons (tOp (rNeD K) (tVar 2) (tLst tNil)) tNil)) [some (.ref t), some (.ref u1), some (.ref rl), o3, o4] H' (is (.int (if decide (rs ≠ []) = true then 1 else 0))) :=
        g_call (g_neNil (gr (Ex.refl _)) fun s hs => by
          obtain ⟨t, ht, rfl⟩ := List.mem_map.mp hs
          obtain ⟨s, hs2, rfl⟩ := List.mem_map.mp ht
          unfold PyData.strOk
          rw [Array.all_eq_true]
          intro i hi
          have := asc s hs2 _ (by show _ ∈ Array.toList _; exact Array.getElem_mem_toList hi)
          simp
          omega) fun x G e ex Q q => .inr ⟨!(rs.map rowJ).isEmpty, by rw [show x = V.bl (!(rs.map rowJ).isEmpty) from ex], q _ _ (Ex.refl _) (by rw [emp]; rfl)⟩
      have g3 := g_rep (b := decide (rs ≠ [])) (g_one g1) g2
      have tail : (if decide (rs ≠ []) = true then [V.str (Txt.join semi (rs.map rowJ))] else []) = (if rs = [] then ([] : List Str) else [Txt.join semi (rs.map rowJ)]).map V.str := by
        by_cases c : rs = []
        · rw [if_pos c, if_neg (by simp [c])]
          rfl
        · rw [if_neg c, if_pos (by simp [c])]
          rfl
      rw [tail] at g3
      have g4 := g_catV (EvP.varP (σ := [some (.ref t), some (.ref u1), some (.ref rl), o3, o4]) (i := 1) (P := lstV (U.map V.str)) rfl ⟨u1, rfl, hu1⟩) (g_one (x := V.str ":") EvP.cst) (by rw [List.length_map, sizeLine_eq]; show _ + 1 ≤ _; omega)
      have g5 := g_catV g4 g3 (by
        rw [List.length_append, List.length_map, List.length_map, sizeLine_eq]
        show _ + 1 + _ ≤ _
        split
        · show _ + 1 + 0 ≤ _
          omega
        · show _ + 1 + 1 ≤ _
          omega)
      rw [show U.map V.str ++ [V.str ":"] ++ (if rs = [] then ([] : List Str) else [Txt.join semi (rs.map rowJ)]).map V.str = ((U ++ [(":" : Str)]) ++ if rs = [] then ([] : List Str) else [Txt.join semi (rs.map rowJ)]).map V.str by rw [List.map_append, List.map_append]; rfl] at g5
      have g6 := g_join (K := K) (sep := " ") g5 (by
        rw [List.map_append, List.map_append, List.sum_append, List.sum_append, List.length_append, List.length_append]
        have e4 : (U.map (·.length)).sum = (U.map fun s : Str => s.length).sum := rfl
        have c1 : (([(":" : Str)]).map (·.length)).sum = 1 := rfl
        have c2 : ((" " : String) : Str).length = 1 := rfl
        have c3 : ([(":" : Str)]).length = 1 := rfl
        rw [e4, c1, c2, c3]
        split
        · show _ + 1 + 0 + (_ + 1 + 0) * 1 ≤ _
          omega
        · show _ + 1 + ((Txt.join semi (rs.map rowJ)).length + 0) + (_ + 1 + 1) * 1 ≤ _
          omega)
      refine EvP.go g6 fun v G e ev => ?_
      have ev : v = .str (Txt.join " " ((U ++ [(":" : Str)]) ++ if rs = [] then ([] : List Str) else [Txt.join semi (rs.map rowJ)])) := ev
      rw [ev, show Txt.join " " ((U ++ [(":" : Str)]) ++ if rs = [] then ([] : List Str) else [Txt.join semi (rs.map rowJ)]) = Txt.join sp (tblW U rs) from law_text U rs]
      rw [ers] at q
      exact q G fun c o hc => e _ _ (bk c o hc)
end
end Wd

set_option Elab.async false
set_option linter.all false
set_option maxRecDepth 100000
set_option maxHeartbeats 4000000
set_option autoImplicit false
/-! _law_read_right. -/
namespace Wd
open PySem PySem.NumText PySem.Spec PyProof.Rows L2 EvP Cm Fk LamX
open Dg hiding numT
open K06 (CalD FunC GoodR NamesOk)
open Tb (TblC TblI TblAt spTStr spTEq manyF)
/-- one by place and one by name -/
def kwA {α : Type} : List α → List α → List α
  | [a], [b] => [a, b]
  | _, _ => []
/-- the class Table, as the law asks it -/
structure TblR (P : Program) (w : World) (K : PySem.W.Frag) (mg : Str → Option Value) (base : Heap) (C CB CT : Addr) where
  S : TblC K C
  SI : TblI K C
  gT : mg "Table" = some (.ref C)
  fS : Addr
  dS : FuncData
  str : Own.Mt P w K mg base C "__str__" 6 ["self"] (spTStr C) fS dS
  fQ : Addr
  dQ : FuncData
  eq : Own.Mt P w K mg base C "__eq__" 1 ["self", "other"] (spTEq K C) fQ dQ
  ne : PySem.W.findIn K (.ref C) "__ne__" = some (some (.builtin "object.__ne__"))
  mro : PySem.W.mroIn K C (.type "object") = some true
  mc : Value
  r : ClX.CRead K C mc
  pR : Addr
  fR : Addr
  dR : FuncData
  cR : ClX.CMet K C mc "read" pR fR
  read : XG.FnG P w K mg base (L2.CX P w) 7 fR dR ["cls", "text"] (spTRead K C CB CT)
  bR : Binds K dR ["cls", "text"] []
  kR : KBinds K dR ["cls", "text"] ["text"] kwA kwA
/-- the law's own _law_heard -/
structure HeardD (K : PySem.W.Frag) (mg : Str → Option Value) (CB CT : Addr) where
  X : HeardX K mg CB CT
  g : Addr
  fd : FuncData
  F : Fun K "_law_heard" "_law_heard" sHeard g fd
  b : Binds K fd ["ask"] []
  gH : mg "_law_heard" = some (.ref g)
  kH : PySem.W.keepIn K (.ref g) = true
/-! where the first word lies that cannot stand -/
theorem uses_le : ∀ {l : List Str} {prev : Str} {i k : Nat}, usesEnd prev i l = .inl k → k ≤ i + l.length
  | [], prev, i, k, h => by
    cases h
    exact Nat.le_refl _
  | w :: r, prev, i, k, h => by
    unfold usesEnd at h
    by_cases c : w = ":"
    · rw [if_pos c] at h
      cases h
    · rw [if_neg c] at h
      by_cases o : okN prev w = true
      · rw [if_pos o] at h
        cases hr : usesEnd w (i + 1) r with
        | inl k2 =>
          rw [hr] at h
          cases h
          have := uses_le hr
          rw [List.length_cons]
          omega
        | inr p =>
          rw [hr] at h
          cases h
      · rw [if_neg o] at h
        cases h
        omega
theorem nums_le : ∀ {n i : Nat} {l : List Str} {k : Nat}, numsEnd n i l = .inl k → k ≤ i + l.length
  | 0, i, l, k, h => nomatch h
  | n + 1, i, [], k, h => by
    cases h
    omega
  | n + 1, i, w :: r, k, h => by
    unfold numsEnd at h
    by_cases c : numB w = true
    · rw [if_pos c] at h
      cases hr : numsEnd n (i + 1) r with
      | inl k2 =>
        rw [hr] at h
        cases h
        have := nums_le hr
        rw [List.length_cons]
        omega
      | inr p =>
        rw [hr] at h
        cases h
    · rw [if_neg c] at h
      cases h
      omega
theorem rows_le : ∀ {f n : Nat} {first : Bool} {prev : Str} {i : Nat} {l : List Str} {k : Nat}, rowsEnd n f first prev i l = .inl k → k ≤ i + l.length
  | 0, n, first, prev, i, l, k, h => nomatch h
  | f + 1, n, first, prev, i, l, k, h => by
    unfold rowsEnd at h
    by_cases e : l = []
    · rw [if_pos e] at h
      cases h
    · rw [if_neg e] at h
      have l1 : 1 ≤ l.length := List.length_pos_iff.mpr e
      by_cases c : first = true ∨ l.head? = some (";" : Str)
      · rw [if_pos c] at h
        have lj : (if first = true then i else i + 1) + (if first = true then l else l.drop 1).length = i + l.length := by
          split
          · rfl
          · rw [List.length_drop]
            omega
        generalize (if first = true then i else i + 1) = j at h lj
        cases hl : (if first = true then l else l.drop 1) with
        | nil =>
          rw [hl] at h lj
          cases h
          rw [List.length_nil] at lj
          omega
        | cons s r =>
          rw [hl] at h lj
          dsimp only at h
          rw [List.length_cons] at lj
          by_cases o : okN prev s = true
          · rw [if_pos o] at h
            cases hr : numsEnd n (j + 1) r with
            | inl k2 =>
              rw [hr] at h
              cases h
              have := nums_le hr
              omega
            | inr p =>
              obtain ⟨vs, q⟩ := p
              rw [hr] at h
              dsimp only at h
              have lq := (nums_facts hr).2
              cases hq : rowsEnd n f false s (j + 1 + n) q with
              | inl k2 =>
                rw [hq] at h
                cases h
                have := rows_le hq
                omega
              | inr rs =>
                rw [hq] at h
                cases h
          · rw [if_neg o] at h
            cases h
            omega
      · rw [if_neg c] at h
        cases h
        omega
theorem due_le {l : List Str} {k : Nat} (h : due l = .inl k) : k ≤ l.length := by
  unfold due at h
  cases hu : usesEnd "" 0 l with
  | inl k2 =>
    rw [hu] at h
    cases h
    have := uses_le hu
    omega
  | inr p =>
    obtain ⟨us, s⟩ := p
    rw [hu] at h
    dsimp only at h
    cases hr : rowsEnd us.length (s.length + 1) true "" (us.length + 1) s with
    | inl k2 =>
      rw [hr] at h
      cases h
      have := rows_le hr
      have e := congrArg List.length (uses_facts hu).1
      rw [List.length_append, List.length_cons] at e
      omega
    | inr rs =>
      rw [hr] at h
      cases h
/-! what is heard, as data -/
theorem dq_tup3 {p : Addr} {H : Hp} {t : Addr} {a b c : V} {x y z : PyData} (ht : H t = some (.tup [a, b, c])) (ha : Dq p H a x) (hb : Dq p H b y) (hc : Dq p H c z) (ne : t ≠ p) : Dq p H (.ref t) (.tuple [x, y, z]) := .tup ht ne (.cons ha (.cons hb (.cons hc .nil)))
abbrev badD (k : Nat) : PyData := .tuple [.str "text", .int 0, .int (k : Nat)]
abbrev manyD (s : Str) : PyData := .tuple [.str "many", .str s, .int 6]
theorem bad_shown : ∀ k : Nat, k ≤ 62 → (badD k).showable = true ∧ (badD k).depth ≤ 60 ∧ (badD k).shown.length ≤ 100000 := by decide +kernel
theorem many_shown : ∀ s ∈ (["sources", "uses"] : List Str), (manyD s).showable = true ∧ (manyD s).depth ≤ 60 ∧ (manyD s).shown.length ≤ 100000 := by decide +kernel
theorem dq_bad {H : Hp} {t : Addr} {k : Nat} (ht : H t = some (.tup (badT k))) : Dq (t + 1) H (.ref t) (badD k) := dq_tup3 ht (.str _) (.int _) (.int _) (Nat.ne_of_lt (Nat.lt_succ_self t))
theorem dq_many {H : Hp} {t : Addr} {s : Str} (ht : H t = some (.tup (manyT s))) : Dq (t + 1) H (.ref t) (manyD s) := dq_tup3 ht (.str _) (.str _) (.int _) (Nat.ne_of_lt (Nat.lt_succ_self t))
theorem pass_calm {X : Cx} : ∀ σ, PassesAt (L2.CX X.prog X.w) X σ E0 := fun σ => by
  intro pins H s e s' I c
  obtain ⟨_, _, _, _, _, _, _, _, _, _, _, _, z⟩ := c
  exact z.elim
abbrev sRight : Stmt := top 53
def NRt : List Str := ["line", "due", "heard"]
theorem scRight : FnScope NRt ["line"] (defScope sRight) := ⟨rfl, rfl, rfl, by decide +kernel, rfl, by decide +kernel, by decide +kernel⟩
def nmR : Str := "_law_read_right.<locals>.<lambda>"
def spRight (T : List (Addr × Str)) : Sp := fun vs H Q _ => ∃ z : Str, vs = [.str z] ∧ Ln z ∧ Tabs T H ∧ ∀ H', ExtN H H' → Tabs T H' → Q (.bl true) H'
theorem spRight_len {T : List (Addr × Str)} : ∀ vs H Q E, spRight T vs H Q E → vs.length = (["line"] : List Str).length := fun vs H Q E h => by
  obtain ⟨z, rfl, _⟩ := h
  rfl
section
variable {P : Program} {w : World} {K : PySem.W.Frag} {mg : Str → Option Value} {base : Heap} {C CB CT f c PT : Addr} {fd : FuncData} {T : List (Addr × Str)}
theorem ok_right (F : FunC K "_law_read_right" "_law_read_right" sRight f c fd) (M : TblR P w K mg base C CB CT) (B : Fk.Blt mg) (hRp : mg "repr" = none) (hL : mg "list" = none) (HD : HeardD K mg CB CT) (DD : CalD P w K mg base 3 "_law_due" ["line"] spLDue)
    (TB : TabB base mg c PT) (hmT : (PT, nmR) ∈ T) (hu : ∀ p ∈ T, p.1 = PT → p.2 = nmR) : XG.FnG P w K mg base CX0 10 f fd ["line"] (spRight T) := by
  have nd := scRight.nd
  obtain ⟨oc, od, kV, doc, pm, an, cdv, ct, osl, efd, lk, hcd⟩ := HD.F.ex
  have hb := HD.b
  rw [efd] at hb lk
  refine FunC.okG F scRight spRight_len fun A outer s H vs Q E gd hr h => ?_
  refine ⟨_, pss_cons (ps_par (i := 1) (j := 2) (by rfl) nd rfl rfl (by decide) rfl rfl (pa_cons (pe_call DD.ok (hr.mono (by decide)) (by rfl) DD.g DD.kp DD.b .nil pass0 (pa_cons (pv 0) pa_nil))
      (pa_cons (by exact LamG.pe_lamG (k := 7) (T := T) (TT := THeard CB CT) (t := fun E => XG.tCMethK C (spTRead K C CB CT) kwA E (tC (.ref C)) (tCons (tVar 0) tNil)) (by rfl) HD.gH HD.kH lk hcd hb scHeard rfl (.inl rfl) (heard_gives HD.X) TB rfl (by exact hmT) (by exact hu) (hr.mono (by decide)) (lamS_by (by show lamSB (defScope sRight) _ = true; decide +kernel)) rfl (fun _ _ _ _ _ => rfl) (fun A outer s H E f c2 gd2 hr2 => XG.pe_cmKGX (pe_glob (v := .ref C) (by rfl) M.gT rfl) M.r M.cR M.read spTRead_len (gd2.trans gd) hr2 M.kR (fun σ => passAt (W := fun cls d _ H => E cls d H) (takes_of rfl rfl rfl rfl) σ) (pk_cons (pe_var (i := 0) rfl (.inr (.inr rfl))) pk_nil))) pa_nil)) (by rfl))
    (pss_cons (ps_if (pt_cmpR op_notN (pv 1) pe_non (nomark _)) (pss_one (ps_ret (pe_cmpR op_eq (pe_callB (call_reprG gd hr.units) (by rfl) hRp (by decide +kernel) (pa_cons (pv 2) pa_nil)) (pe_callB (call_reprG gd hr.units) (by rfl) hRp (by decide +kernel) (pa_cons (pv 1) pa_nil)) (nomark _)))) pss_nil)
    (pss_one (ps_ret (pe_and (pe_callB call_isi (by rfl) B.isi (by decide +kernel) (pa_cons (pv 2) (pa_cons (pe_bltn (v := .ty "list") (by rfl) hL (by decide +kernel) rfl) pa_nil)))
      (pe_and (pe_cmpR op_eq (pe_callTy (T := "str") (Own.call_strOwn M.str (hr.mono (by decide))) (by rfl) B.str (by decide +kernel) (pa_cons (pe_ix ix_list (pv 2) pe_int (fun _ _ => rfl)) pa_nil)) (pv 0) (nomark _))
        (pe_one (pe_cmpR (Own.cmp_own M.eq (hr.mono (by decide))) (XG.pe_cmGX (pe_glob (v := .ref C) (by rfl) M.gT rfl) M.r M.cR M.read spTRead_len gd (hr.mono (by decide)) M.bR pass_calm (pa_cons (pv 0) pa_nil)) (pe_ix ix_list (pv 2) pe_int (fun _ _ => rfl)) (nomark _)))))))), ?_⟩
  obtain ⟨z, rfl, hz, hT, q⟩ := h
  have eqT : ∀ (a b c : V) (x y : Str), x = y → True := fun _ _ _ _ _ _ => trivial
  -- due and heard, both data
  have same : ∀ (d : PyData) (t1 t2 : Addr) (H2 : Hp), d.showable = true ∧ d.depth ≤ 60 ∧ d.shown.length ≤ 100000 → Dq (t1 + 1) H2 (.ref t1) d → Dq (t2 + 1) H2 (.ref t2) d → Q (.bl true) H2 →
      tRet (tOp rEq (tCB rRepr (tCons (tVar 2) tNil)) (tCB rRepr (tCons (tVar 1) tNil))) { nx := fun _ H' => Q .non H', rt := Q } [some (.str z), some (.ref t1), some (.ref t2)] H2 := fun d t1 t2 H2 ⟨s1, s2, s3⟩ d1 d2 h =>
    ⟨_, rfl, t2 + 1, _, d, rfl, d2, s1, s2, s3, _, rfl, t1 + 1, _, d, rfl, d1, s1, s2, s3, rfl, by
      rw [decide_eq_true rfl]
      exact h⟩
  refine ⟨_, rfl, z, rfl, hz, fun k hk t H1 e1 ht => ?_, fun us rs hd => ⟨fun c6 t H1 e1 ht => ?_, fun c1 c6 t H1 e1 ht => ?_, fun c1 c2 H1 e1 => ?_⟩⟩
  · refine ⟨hT.ext e1, fun H2 e2 t2 => ?_⟩
    refine ⟨rfl, _, rfl, .str z, rfl, .inl ⟨z, rfl, hz.toTxT, fun k2 hk2 d H3 e3 hd3 => .inl ⟨k2, d, rfl, rfl, hd3, fun t3 H4 e4 ht3 => ?_⟩, fun us rs hd => (by rw [hk] at hd; cases hd)⟩⟩
    rw [hk] at hk2
    cases hk2
    refine ⟨_, _, rfl, ?_⟩
    refine ⟨_, rfl, rfl, _, rfl, ?_⟩
    have e34 := e3.trans e4
    have ht4 := e34 _ _ (e2 _ _ ht (fun ps z => nomatch z))
    have kl : k ≤ 62 := Nat.le_trans (due_le hk) hz.few
    exact same (badD k) t t3 H4 (bad_shown k kl) (dq_bad ht4) (dq_bad ht3) (q H4 ((ExtN.of e1).trans (e2.trans (ExtN.of e34))) (t2.ext e34))
  · refine ⟨hT.ext e1, fun H2 e2 t2 => ?_⟩
    refine ⟨rfl, _, rfl, .str z, rfl, .inl ⟨z, rfl, hz.toTxT, fun k2 hk2 => (by rw [hd] at hk2; cases hk2), fun us2 rs2 hd2 => ?_⟩⟩
    rw [hd] at hd2
    cases hd2
    refine ⟨fun _ d H3 e3 hd3 => .inr ⟨"sources", d, rfl, rfl, hd3, fun t3 H4 e4 ht3 => ?_⟩, fun c => absurd c6 (by omega), fun c => absurd c6 (by omega)⟩
    refine ⟨_, _, rfl, ?_⟩
    refine ⟨_, rfl, rfl, _, rfl, ?_⟩
    have e34 := e3.trans e4
    have ht4 := e34 _ _ (e2 _ _ ht (fun ps z => nomatch z))
    exact same (manyD "sources") t t3 H4 (many_shown _ (.head _)) (dq_many ht4) (dq_many ht3) (q H4 ((ExtN.of e1).trans (e2.trans (ExtN.of e34))) (t2.ext e34))
  · refine ⟨hT.ext e1, fun H2 e2 t2 => ?_⟩
    refine ⟨rfl, _, rfl, .str z, rfl, .inl ⟨z, rfl, hz.toTxT, fun k2 hk2 => (by rw [hd] at hk2; cases hk2), fun us2 rs2 hd2 => ?_⟩⟩
    rw [hd] at hd2
    cases hd2
    refine ⟨fun c => absurd c (by omega), fun _ _ d H3 e3 hd3 => .inr ⟨"uses", d, rfl, rfl, hd3, fun t3 H4 e4 ht3 => ?_⟩, fun _ c => absurd c (by omega)⟩
    refine ⟨_, _, rfl, ?_⟩
    refine ⟨_, rfl, rfl, _, rfl, ?_⟩
    have e34 := e3.trans e4
    have ht4 := e34 _ _ (e2 _ _ ht (fun ps z => nomatch z))
    exact same (manyD "uses") t t3 H4 (many_shown _ (.tail _ (.head _))) (dq_many ht4) (dq_many ht3) (q H4 ((ExtN.of e1).trans (e2.trans (ExtN.of e34))) (t2.ext e34))
  · refine ⟨hT.ext e1, fun H2 e2 t2 => ?_⟩
    have rd := read_ok hz.toTxT hz.wl hd
    have nS : NamesOk (rs.map (·.1)) := rd.rr.up.ok (by rw [List.length_map]; exact c1)
    have nU : NamesOk us := rd.uu.ok c2
    refine ⟨rfl, _, rfl, .str z, rfl, .inl ⟨z, rfl, hz.toTxT, fun k2 hk2 => (by rw [hd] at hk2; cases hk2), fun us2 rs2 hd2 => ?_⟩⟩
    rw [hd] at hd2
    cases hd2
    refine ⟨fun c => absurd c (by omega), fun _ c => absurd c (by omega), fun _ _ b H3 e3 tb p H4 e4 hp => ?_⟩
    refine ⟨_, _, rfl, ?_⟩
    refine ⟨_, rfl, rfl, _, rfl, ?_⟩
    have tb4 := tb.mono e4
    refine ⟨_, rfl, _, _, _, _, true, rfl, .ty _, .base (.lst hp), kit_ty (by decide +kernel), _, rfl, ?_⟩
    refine ⟨_, rfl, p, _, 0, _, rfl, rfl, SqL.of hp, rfl, _, rfl, Tb.tbl_ins tb4, b, _, _, _, rfl, tb4, nS.nm, nU.nm, nS.few, nU.few, rd.wk, fun H5 e5 => ⟨_, rfl, _, rfl, rfl, ?_⟩⟩
    rw [rd.tx, decide_eq_true rfl]
    refine ⟨_, rfl, ?_⟩
    have tb5 := tb4.mono e5
    have hp5 := e5 _ _ hp
    refine ⟨rfl, _, rfl, .str z, rfl, .inl ⟨z, rfl, hz.toTxT, fun k2 hk2 => (by rw [hd] at hk2; cases hk2), fun us2 rs2 hd2 => ?_⟩⟩
    rw [hd] at hd2
    cases hd2
    refine ⟨fun c => absurd c (by omega), fun _ c => absurd c (by omega), fun _ _ b2 H6 e6 tb6 => ?_⟩
    have tb7 := tb5.mono e6
    refine ⟨_, rfl, p, _, 0, _, rfl, rfl, SqL.of (e6 _ _ hp5), rfl, Tb.tbl_ins tb6, Tb.tbl_ins tb7, .inl ⟨b2, b, _, _, _, _, _, _, rfl, tb6, tb7, ?_, ?_, ?_, ?_, ?_⟩⟩
    · exact fun s hs => K06.ok_str (nS.nm s hs)
    · exact fun s hs => K06.ok_str (nU.nm s hs)
    · exact fun s hs => K06.ok_str (nS.nm s hs)
    · exact fun s hs => K06.ok_str (nU.nm s hs)
    · have e : Tb.eqT (rs.map (·.1)) us (rs.map (·.1)) us (wOf us rs) (wOf us rs) = true := by
        unfold Tb.eqT
        rw [decide_eq_true rfl, decide_eq_true rfl, K06.same_of rd.good rd.good fun _ => rfl]
        rfl
      rw [e]
      have e36 := ((e3.trans e4).trans e5).trans e6
      exact q H6 ((ExtN.of e1).trans (e2.trans (ExtN.of e36))) (t2.ext e36)
end
end Wd

set_option Elab.async false
set_option linter.all false
set_option maxRecDepth 100000
set_option maxHeartbeats 4000000
set_option autoImplicit false
/-! The law itself: its words. -/
namespace Wd
open PySem PySem.NumText PySem.Spec PyProof.Rows L2 EvP Cm Fk LamX
open Dg hiding numT
open K06 (CalD CalG FunC GoodR NamesOk PlainOk PlainAt Pen But Alike TabW tabW Tabs_but)
open DtE (TRow lookT)
open Tb (key2 wk TblC TblI TblAt spTStr spTEq manyF tblT)
/-- lengths of words, each with a blank -/
def tot (l : List Str) : Nat := (l.map fun x => x.length + 1).sum
theorem join_len : ∀ l : List Str, l ≠ [] → (Txt.join sp l).length + 1 = tot l
  | [], h => absurd rfl h
  | [a], _ => rfl
  | a :: b :: r, _ => by
    have ih := join_len (b :: r) (by simp)
    rw [TL.join_eq] at ih ⊢
    show (a ++ sp ++ Str.join sp (b :: r)).length + 1 = (a.length + 1) + tot (b :: r)
    rw [Str.length_append, Str.length_append, ← ih]
    show a.length + 1 + _ + 1 = _
    omega
theorem sum_tot : ∀ l : List Str, (l.map (·.length)).sum + l.length = tot l
  | [] => rfl
  | a :: r => by
    have := sum_tot r
    unfold tot at this ⊢
    simp only [List.map_cons, List.sum_cons, List.length_cons]
    omega
theorem Wb.tot {n : Nat} {ww : List Str} (h : Wb n ww) : tot ww ≤ 32 * ww.length :=
  Tb.sum_le (fun x : Str => x.length + 1) (n := 32) (l := ww) fun x hx => by have := (h.wd x hx).1; omega
/-- the joined words, as a line -/
theorem Wb.ln {n : Nat} {ww : List Str} (h : Wb n ww) (hn : n ≤ 62) : Ln (Txt.join sp ww) ∧ ws (Txt.join sp ww) = ww := by
  have e : ws (Txt.join sp ww) = ww := cut h.ne fun p hp => (h.wd p hp).2.1
  have l := join_len ww h.ne
  have t := h.tot
  have f := h.few
  refine ⟨⟨⟨by omega, by rw [e]; omega, by rw [e]; exact fun m => (h.wd _ m).2.2.2 rfl⟩, join_asc fun p hp => (h.wd p hp).2.2.1, by rw [e]; exact fun x hx => (h.wd x hx).1⟩, e⟩
theorem no_blank {x : Str} (h : nameB x = true) : 32 ∉ tl x := fun m => by
  unfold nameB at h
  simp only [Bool.and_eq_true] at h
  have a := h.1.2
  unfold Txt.isalpha at a
  simp only [Bool.and_eq_true, ← Array.all_toList, List.all_eq_true] at a
  have := a.2 32 m
  revert this
  decide +kernel
theorem name_word {x : Str} (h : nameB x = true) : x.length ≤ 31 ∧ 32 ∉ tl x ∧ (∀ c ∈ tl x, c < 128) ∧ x ≠ "|" :=
  ⟨by have := name_len h; omega, no_blank h, name_asc h, fun e => by rw [e] at h; revert h; decide +kernel⟩
theorem num_word {n : Int} (h0 : 0 ≤ n) (h1 : n < 10 ^ 30) : (numT n).length ≤ 31 ∧ 32 ∉ tl (numT n) ∧ (∀ c ∈ tl (numT n), c < 128) ∧ numT n ≠ "|" := by
  have dg : AllDigits (tl (numT n)) := by
    show AllDigits (numT n).cps.toList
    rw [numT_cps h0]
    exact dl_digits _
  refine ⟨?_, fun m => ?_, num_asc h0, fun e => ?_⟩
  · have := (pad_dl 29 n.toNat (by
      have : n.toNat < 10 ^ 30 := by
        have e : ((n.toNat : Nat) : Int) = n := Int.toNat_of_nonneg h0
        have h : ((n.toNat : Nat) : Int) < ((10 ^ 30 : Nat) : Int) := by rw [e]; exact h1
        exact Int.ofNat_lt.mp h
      exact this)).1
    rw [← len_cps]
    show (numT n).cps.toList.length ≤ 31
    rw [numT_cps h0]
    omega
  · have := dg 32 m
    omega
  · have m : (124 : Nat) ∈ tl (numT n) := by
      rw [e]
      show (124 : Nat) ∈ [124]
      simp
    have := dg 124 m
    omega
theorem plain_wb {ss xs : List Str} {r : TRow} (ok : PlainOk ss xs r) : Wb 54 (tblW (srt xs) (rsP ss xs r)) := by
  have nn := K06.wk_nn ok.w
  have uU := up_srt ok.u
  have uS := up_srt ok.s
  have rr := rsP_len ok.s ok.u (fun k => (nn k).1)
  have l := rw_len (first := true) rr
  have lr : (rsP ss xs r).length ≤ 6 := by
    unfold rsP
    rw [List.length_map, (srt_perm ss).length_eq]
    exact ok.s.few
  have lu : (srt xs).length ≤ 6 := by rw [(srt_perm xs).length_eq]; exact ok.u.few
  refine ⟨by unfold tblW; simp, ?_, fun p hp => ?_⟩
  · unfold tblW
    rw [List.length_append, List.length_cons]
    have m : (rsP ss xs r).length * ((srt xs).length + 2) ≤ 6 * 8 := Nat.mul_le_mul lr (by omega)
    by_cases e : rsP ss xs r = []
    · rw [e]
      show (srt xs).length + (0 + 1) ≤ 54
      omega
    · rw [if_pos ⟨rfl, e⟩] at l
      omega
  · have rowsW : ∀ (rs : Rws) (first : Bool), (∀ t ∈ rs, nameB t.1 = true ∧ ∀ v ∈ t.2, 0 ≤ v ∧ v < 10 ^ 30) → ∀ p ∈ rw first rs, p.length ≤ 31 ∧ 32 ∉ tl p ∧ (∀ c ∈ tl p, c < 128) ∧ p ≠ "|" := fun rs => by
      induction rs with
      | nil => intro _ _ p hp; cases hp
      | cons t rs ih =>
        intro first h p hp
        have e : rw first (t :: rs) = (if first = true then [] else [(";" : Str)]) ++ (t.1 :: t.2.map numT) ++ rw false rs := rfl
        rw [e] at hp
        rcases List.mem_append.mp hp with hp | hp
        · rcases List.mem_append.mp hp with hp | hp
          · have : p = (";" : Str) := by
              split at hp
              · cases hp
              · exact List.mem_singleton.mp hp
            rw [this]
            decide +kernel
          · rcases List.mem_cons.mp hp with rfl | hp
            · exact name_word (h t (.head _)).1
            · obtain ⟨v, hv, rfl⟩ := List.mem_map.mp hp
              obtain ⟨a, b⟩ := (h t (.head _)).2 v hv
              exact num_word a b
        · exact ih false (fun t' ht' => h t' (.tail _ ht')) p hp
    unfold tblW at hp
    rcases List.mem_append.mp hp with hp | hp
    · exact name_word (uU.1 p hp)
    · rcases List.mem_cons.mp hp with rfl | hp
      · decide +kernel
      · refine rowsW _ true (fun t ht => ?_) p hp
        unfold rsP at ht
        obtain ⟨s, hs, rfl⟩ := List.mem_map.mp ht
        refine ⟨uS.1 s hs, fun v hv => ?_⟩
        obtain ⟨u, _, rfl⟩ := List.mem_map.mp hv
        exact nn _
theorem plain_due {ss xs : List Str} {r : TRow} (ok : PlainOk ss xs r) : due (tblW (srt xs) (rsP ss xs r)) = .inr (srt xs, rsP ss xs r) := due_back (up_srt ok.u) (rsP_len ok.s ok.u fun k => (K06.wk_nn ok.w k).1)
theorem plain_good {ss xs : List Str} {r : TRow} (ok : PlainOk ss xs r) : GoodR ss xs r := ⟨ok.w.nod, ok.w.key, fun t ht => (ok.w.pos t ht).1⟩
theorem zip_mem (f : Str → Int) : ∀ {l : List Str} {x : Str}, x ∈ l → (x, f x) ∈ l.zip (l.map f)
  | y :: l, x, h => by
    rcases List.mem_cons.mp h with rfl | h
    · exact .head _
    · exact .tail _ (zip_mem f h)
/-- what is read of a plain table's text -/
theorem plain_read {ss xs : List Str} {r : TRow} (ok : PlainOk ss xs r) : GoodR ss xs (wOf (srt xs) (rsP ss xs r)) ∧ ∀ k, wk (wOf (srt xs) (rsP ss xs r)) k = wk r k := by
  obtain ⟨ln, e⟩ := (plain_wb ok).ln (by decide)
  have rd := read_ok ln.toTxT ln.wl (by rw [e]; exact plain_due ok)
  have g : GoodR ss xs (wOf (srt xs) (rsP ss xs r)) := ⟨rd.good.nod, fun t ht => by
    obtain ⟨a, ha, x, hx, ek⟩ := rd.good.key t ht
    rw [rsP_names] at ha
    exact ⟨a, (srt_perm ss).mem_iff.mp ha, x, (srt_perm xs).mem_iff.mp hx, ek⟩, rd.good.pos⟩
  refine ⟨g, fun k => ?_⟩
  by_cases c : ∃ a ∈ ss, ∃ x ∈ xs, k = key2 a x
  · obtain ⟨a, ha, x, hx, rfl⟩ := c
    have ma : (a, (srt xs).map fun u => wk r (key2 a u)) ∈ rsP ss xs r := List.mem_map_of_mem (f := fun s => (s, (srt xs).map fun u => wk r (key2 s u))) ((srt_perm ss).mem_iff.mpr ha)
    have me : (x, wk r (key2 a x)) ∈ (srt xs).zip ((srt xs).map fun u => wk r (key2 a u)) := zip_mem (fun u => wk r (key2 a u)) ((srt_perm xs).mem_iff.mpr hx)
    exact rd.wkv _ ma _ me
  · rw [g.out c, (plain_good ok).out c]
def some1 : List Str := ["", ":", "x", "x :", ": a", ": a ; b", "x : a", "x : a 1 ;", "x : a 1 b 2", "y x : a 1 2", "x : b 1 ; a 1"]
def some2 : List Str := ["x : a 01", ": a ; b ; c ; d ; e ; f ; g", "a b c d e f g : x 0 0 0 0 0 0 0", " : a"]
def some3 : List Str := ["a b c d e f g : x 0 0 0 0 0 0 01", ": a ; b ; c ; d ; e ; f ; g ; A"]
def someL : List Str := some1 ++ some2 ++ some3
theorem someL_ok : ∀ z ∈ someL, z.length ≤ 9000 ∧ (ws z).length ≤ 62 ∧ (("|" : Str) ∉ ws z) ∧ (∀ c ∈ tl z, c < 128) ∧ ∀ x ∈ ws z, x.length ≤ 31 := by decide +kernel
end Wd

set_option Elab.async false
set_option linter.all false
set_option maxRecDepth 100000
set_option maxHeartbeats 4000000
set_option autoImplicit false
/-! The law itself. -/
namespace Wd
open PySem PySem.NumText PySem.Spec PyProof.Rows L2 EvP Cm Fk LamX
open Dg hiding numT
open K06 (CalD CalG FunC GoodR NamesOk PlainOk PlainAt Pen But Alike TabW tabW Tabs_but TabW_N PlainAt_N spPen spPick spPlain spMade spDraw)
open DtE (TRow lookT)
open Tb (key2 wk TblC TblI TblAt spTStr spTEq manyF tblT)
theorem TblAt_but {C x p q : Addr} {H H' : Hp} {ss xs : List Str} {r : TRow} {ns : List Int} {s g : Int} (hP : Pen H p q ns s g) (e : But p H H') (h : TblAt C H x ss xs r) : TblAt C H' x ss xs r := by
  obtain ⟨dx, n1, n2, dw, p', prs, h1, h2, h3, h4, h5, h6⟩ := h
  have up : ∀ {b o}, H b = some o → o ≠ .lst [.ref q, .int s, .int g] → H' b = some o := fun h n => e _ _ h (ne_of h hP.p n)
  have all : ∀ {ks : List (List Key)} {vs : List V}, All2 H (ks.map fun k => tupV (k.map kV)) vs → All2 H' (ks.map fun k => tupV (k.map kV)) vs := fun {ks} => by
    induction ks with
    | nil => intro vs h; cases h; exact .nil
    | cons k ks ih =>
      intro vs h
      cases h with
      | cons a t =>
        obtain ⟨b, ev, hb⟩ := a
        exact .cons ⟨b, ev, up hb fun z => nomatch z⟩ (ih t)
  exact ⟨dx, n1, n2, dw, p', prs, up h1 (fun z => nomatch z), up h2 (fun z => nomatch z), up h3 (fun z => nomatch z), up h4 (fun z => nomatch z), up h5 (fun z => nomatch z), all h6⟩
section
variable {K : PySem.W.Frag} {C CB CT : Addr} {σ : L2.St} {H : Hp} {u t : TS} {D : Ends} {T : List (Addr × Str)} {tt tu : TT} {b : Bool} {te : TE} {ss xs : List Str} {r : TRow}
/-- a test that says b, and may write the tables -/
def TstN (T : List (Addr × Str)) (tt : TT) (σ : L2.St) (H : Hp) (b : Bool) : Prop := ∀ H1, ExtN H H1 → Tabs T H1 → ∀ Q : Bool → Hp → Prop, (∀ H2, ExtN H1 H2 → Tabs T H2 → Q b H2) → tt σ H1 Q
theorem t_orN (h : TstN T tt σ H false) (k : TstN T tu σ H b) : TstN T (tOr tt tu) σ H b := fun H1 e t1 Q q =>
  h H1 e t1 _ fun H2 e2 t2 => by
    show tu σ H2 Q
    exact k H2 (e.trans e2) t2 Q fun H3 e3 t3 => q H3 (e2.trans e3) t3
theorem st_ifFN (h : TstN T tt σ H false) (hT : Tabs T H) (k : ∀ H1, ExtN H H1 → Tabs T H1 → u D σ H1) : tSeq (tIfS tt t tNext) u D σ H := h H (ExtN.refl H) hT _ k
theorem st_ifFN1 (h : TstN T tt σ H false) (hT : Tabs T H) (k : ∀ H1, ExtN H H1 → Tabs T H1 → D.nx σ H1) : tIfS tt t tNext D σ H := h H (ExtN.refl H) hT _ k
/-- a test of what lasts -/
theorem t_lasts (h : ∀ H1, ExtN H H1 → Tst tt σ H1 b) : TstN T tt σ H b := fun H1 e t1 Q q => h H1 e H1 (Ex.refl H1) Q fun H2 e2 => q H2 (ExtN.of e2) (t1.ext e2)
theorem t_rightE {z : Str} (h : EvP.Gives te σ H (is (.str z))) (hl : ∀ H1, ExtN H H1 → EvP.Gives te σ H1 (is (.str z))) (hz : Ln z) : TstN T (tNot (tB (tCall (spRight T) [] E0 (tCons te tNil)))) σ H false := fun H1 e t1 Q q =>
  hl H1 e H1 (Ex.refl H1) _ fun v H2 e2 ev => by
    rw [show v = _ from ev]
    exact ⟨z, rfl, hz, t1.ext e2, fun H' e' t' => ⟨true, rfl, q H' ((ExtN.of e2).trans e') t'⟩⟩
theorem t_right {z : Str} {i : Nat} (hi : σ[i]? = some (some (.str z))) (hz : Ln z) : TstN T (tNot (tB (tCall (spRight T) [] E0 (tCons (tVar i) tNil)))) σ H false := t_rightE (EvP.var hi) (fun _ _ => EvP.var hi) hz
/-- Table.read(line), a plain table's own text -/
theorem g_read (ok : PlainOk ss xs r) (h : EvP.Gives te σ H (is (.str (Txt.join sp (tblW (srt xs) (rsP ss xs r)))))) : EvP.Gives (ClX.tCMeth C (spTRead K C CB CT) E0 (tC (.ref C)) (tCons te tNil)) σ H (tabW C ss xs (wk r)) := fun H1 e Q q => by
  obtain ⟨ln, ew⟩ := (plain_wb ok).ln (by decide)
  have du := plain_due ok
  rw [← ew] at du
  obtain ⟨g, gw⟩ := plain_read ok
  refine ⟨rfl, h H1 e _ fun v H2 e2 ev => ⟨v, rfl, .inl ⟨_, ev, ln.toTxT, fun k hk => (by rw [du] at hk; cases hk), fun us rs hd => ?_⟩⟩⟩
  rw [du] at hd
  cases hd
  have l1 : (rsP ss xs r).length ≤ 6 := by
    unfold rsP
    rw [List.length_map, (srt_perm ss).length_eq]
    exact ok.s.few
  have l2 : (srt xs).length ≤ 6 := by rw [(srt_perm xs).length_eq]; exact ok.u.few
  refine ⟨fun c => absurd c (by omega), fun _ c => absurd c (by omega), fun _ _ b H' e' tb => ?_⟩
  rw [rsP_names] at tb
  exact q _ _ (e2.trans e') ⟨b, _, rfl, tb, g, gw⟩
/-- its reading, of what is no text -/
theorem st_heardOdd {Q : VK} {v : V} {i : Nat} {ty : Value} (hi : σ[i]? = some (some v)) (hT : Tabs T H) (hty : ∀ H', ExtN H H' → TyX K H' v ty) (kt : PySem.W.kitOne K ty (.type "str") = some false) (k : ∀ t H1, ExtN H H1 → Tabs T H1 → H1 t = some (.tup (badT 0)) → Q (.ref t) H1) :
    tLam T (THeard CB CT) (fun E => ClX.tCMeth C (spTRead K C CB CT) E (tC (.ref C)) (tCons (tVar i) tNil)) σ H Q := by
  refine ⟨hT, fun H1 e1 t1 => ?_⟩
  refine ⟨rfl, _, hi, v, rfl, .inr ⟨ty, hty H1 e1, fun H' e => hty H' (e1.trans (ExtN.of e)), kt, fun d H' e hd => .inl ⟨0, d, rfl, rfl, hd, fun t H2 e2 ht => ?_⟩⟩⟩
  exact k t H2 (e1.trans (ExtN.of (e.trans e2))) (t1.ext (e.trans e2)) ht
theorem bad_shaped : SeqAt.shaped (.tuple [.str "text", .int 0, .int ((0 : Nat) : Int)]) = true := by decide +kernel
theorem dp_bad : DpAll K H (badT 0) [.str "text", .int 0, .int ((0 : Nat) : Int)] := .cons (.str _) (.cons (.int _) (.cons (.int _) .nil))
end
/-- what is no text, and stays -/
def OddV (K : PySem.W.Frag) (p : Addr) (v : V) (H : Hp) : Prop := ∃ t : Value, PySem.W.kitOne K t (.type "str") = some false ∧ ∀ H', (∀ b o, H b = some o → b ≠ p → (∀ ps, o ≠ .tbl ps) → H' b = some o) → TyX K H' v t
/-- a new dict -/
def dctP : PR := ⟨fun v H => ∃ a, v = .ref a ∧ H a = some (.dK []), fun _ _ _ e ⟨a, h1, h2⟩ => ⟨a, h1, e _ _ h2⟩⟩
abbrev sLaw : Stmt := top 54
def NLw : List Str := ["script", "pen", "turn", "plain", "table", "line", "words", "again", "odd", "some"]
theorem scLaw : FnScope NLw ["script"] (defScope sLaw) := ⟨rfl, rfl, rfl, by decide +kernel, rfl, by decide +kernel, by decide +kernel⟩
def nmL : Str := "law.<locals>.<lambda>"
def spLaw (K : PySem.W.Frag) (T : List (Addr × Str)) : Sp := fun vs H Q _ => ∃ (a : Addr) (ns : List Int), vs = [.ref a] ∧ SqL K H a (ns.map V.int) ∧ ns.length ≤ 63 ∧ Tabs T H ∧ ∀ H', Q (.bl true) H'
section
variable {P : Program} {w : World} {K : PySem.W.Frag} {mg : Str → Option Value} {base : Heap} {C CB CT f c PT fR : Addr} {fd dR : FuncData} {T : List (Addr × Str)}
theorem ok_law (F : FunC K "law" "law" sLaw f c fd) (M : TblR P w K mg base C CB CT) (kS : PySem.W.kitOne K (.ref C) (.type "str") = some false) (hR : mg "range" = none) (B : Fk.Blt mg) (HD : HeardD K mg CB CT)
    (DP : CalD P w K mg base 1 "_law_pen" ["script"] (spPen K)) (DL : CalD P w K mg base 3 "_law_plain" ["pen", "most"] spPlain) (DM : CalG P w K mg base 7 "_law_made" ["pen", "plain"] (spMade C)) (DT : CalD P w K mg base 2 "_law_text" ["plain"] spText) (DK : CalD P w K mg base 2 "_law_pick" ["pen", "some"] spPick) (DB : CalD P w K mg base 3 "_law_bent" ["pen", "words"] spBent)
    (FR : XG.FnG P w K mg base CX0 10 fR dR ["line"] (spRight T)) (bR : Binds K dR ["line"] []) (gR : mg "_law_read_right" = some (.ref fR)) (kR : PySem.W.keepIn K (.ref fR) = true)
    (TB : TabB base mg c PT) (hmT : (PT, nmL) ∈ T) (hu : ∀ p ∈ T, p.1 = PT → p.2 = nmL) : XG.FnG P w K mg base CX0 11 f fd ["script"] (spLaw K T) := by
  have nd := scLaw.nd
  obtain ⟨oc, od, kV, doc, pm, an, cdv, ct, osl, efd, lk, hcd⟩ := HD.F.ex
  have hb := HD.b
  rw [efd] at hb lk
  refine FunC.okG F scLaw (fun vs H Q E h => ?_) (fun A outer s H vs Q E gd hr h => ?_)
  · obtain ⟨a, ns, rfl, _⟩ := h
    rfl
  · have gd : (A.deeper (envOfC "law" (defScope sLaw) s.heap.objs.size f (.ref c))).guards = some [] := gd
    refine ⟨_, pss_cons (ps_set (i := 1) nd rfl (Or.inl rfl) (pe_call DP.ok (hr.mono (by decide)) (by rfl) DP.g DP.kp DP.b .nil pass0 (pa_cons (pv 0) pa_nil)))
      (pss_cons (ps_for PassesOwn.never rfl (pi_range1 rfl hR (pa_cons pe_int pa_nil)) (pg_name (i := 2) nd rfl (Or.inl rfl))
        (pss_cons (ps_set (i := 3) nd rfl (Or.inl rfl) (pe_call DL.ok (hr.mono (by decide)) (by rfl) DL.g DL.kp DL.b .nil pass0 (pa_cons (pv 1) (pa_cons (pe_op op_pow pe_int pe_int) pa_nil))))
        (pss_cons (ps_par (i := 4) (j := 5) (by rfl) nd rfl rfl (by decide) rfl rfl (pa_cons (Tb.pe_callG DM.ok DM.len gd (hr.mono (by decide)) (by rfl) DM.g DM.kp DM.b (pa_cons (pv 1) (pa_cons (pv 3) pa_nil))) (pa_cons (pe_call DT.ok (hr.mono (by decide)) (by rfl) DT.g DT.kp DT.b .nil pass0 (pa_cons (pv 3) pa_nil)) pa_nil)) (by rfl))
        (pss_cons (ps_if (PW.pt (pw_or (pt_cmpR op_ne (pe_callTy (T := "str") (Own.call_strOwn M.str (hr.mono (by decide))) (by rfl) B.str (by decide +kernel) (pa_cons (pv 4) pa_nil)) (pv 5) (nomark _))
          (pw_or (pt_cmpR (Own.ne_own M.eq M.ne M.mro (hr.mono (by decide))) (XG.pe_cmGX (pe_glob (v := .ref C) (by rfl) M.gT rfl) M.r M.cR M.read spTRead_len gd (hr.mono (by decide)) M.bR pass_calm (pa_cons (pv 5) pa_nil)) (pv 4) (nomark _))
          (pw_or1 (pt_not (pt_val (Tb.pe_callG FR spRight_len gd (hr.mono (by decide)) (by rfl) gR kR bR (pa_cons (pv 5) pa_nil)))))))) (pss_one (ps_ret pe_bl)) pss_nil)
        (pss_cons (ps_set (i := 6) nd rfl (Or.inl rfl) (pe_split (pv 5) pe_str))
        (pss_cons (ps_for PassesOwn.never rfl (pi_range1 rfl hR (pa_cons pe_int pa_nil)) (pg_name (i := 7) nd rfl (Or.inl rfl))
          (pss_cons (ps_set (i := 6) nd rfl (Or.inl rfl) (pe_call DB.ok (hr.mono (by decide)) (by rfl) DB.g DB.kp DB.b .nil pass0 (pa_cons (pv 1) (pa_cons (pv 6) pa_nil))))
            (pss_one (ps_if (pt_not (pt_val (Tb.pe_callG FR spRight_len gd (hr.mono (by decide)) (by rfl) gR kR bR (pa_cons (pe_join pe_str (pv 6)) pa_nil)))) (pss_one (ps_ret pe_bl)) pss_nil))))
        (pss_cons (ps_set (i := 8) nd rfl (Or.inr rfl) (pe_call DK.ok (hr.mono (by decide)) (by rfl) DK.g DK.kp DK.b .nil pass0 (pa_cons (pv 1) (pa_cons (pe_lst (pa_cons pe_non (pa_cons pe_int (pa_cons pe_bl (pa_cons (pe_lst (pa_cons (pv 5) pa_nil)) (pa_cons (pe_tup (pa_cons (pv 5) pa_nil)) (pa_cons pe_dnewK (pa_cons (pv 4) (pa_cons (pe_op op_pow pe_int pe_int) pa_nil))))))))) pa_nil))))
        (pss_one (ps_if (pt_cmpR (op_neD hr.units) (by exact LamG.pe_lamG (k := 7) (T := T) (TT := THeard CB CT) (t := fun E => ClX.tCMeth C (spTRead K C CB CT) E (tC (.ref C)) (tCons (tVar 8) tNil)) (by rfl) HD.gH HD.kH lk hcd hb scHeard rfl (.inl rfl) (heard_gives HD.X) TB rfl (by exact hmT) (by exact hu) (hr.mono (by decide)) (lamS_by (by show lamSB (defScope sLaw) _ = true; decide +kernel)) rfl (fun _ _ _ _ _ => rfl) (fun A outer s H E f c2 gd2 hr2 => XG.pe_cmGX (pe_glob (v := .ref C) (by rfl) M.gT rfl) M.r M.cR M.read spTRead_len (gd2.trans gd) hr2 M.bR (fun σ => passAt (W := fun cls d _ H => E cls d H) (takes_of rfl rfl rfl rfl) σ) (pa_cons (pe_var (i := 8) rfl (.inr (.inr rfl))) pa_nil))) (pe_tup (pa_cons pe_str (pa_cons pe_int (pa_cons pe_int pa_nil)))) (nomark _)) (pss_one (ps_ret pe_bl)) pss_nil))))))))) 
      (pss_cons (ps_set (i := 9) nd rfl (Or.inl rfl) (pe_lst (pa_cons pe_str (pa_cons pe_str (pa_cons pe_str (pa_cons pe_str (pa_cons pe_str (pa_cons pe_str (pa_cons pe_str (pa_cons pe_str (pa_cons pe_str (pa_cons pe_str (pa_cons pe_str pa_nil)))))))))))))
      (pss_cons (ps_set (i := 9) nd rfl (Or.inl rfl) (pe_op op_cat (pv 9) (pe_lst (pa_cons pe_str (pa_cons pe_str (pa_cons pe_str (pa_cons pe_str pa_nil)))))))
      (pss_cons (ps_set (i := 9) nd rfl (Or.inl rfl) (pe_op op_cat (pv 9) (pe_lst (pa_cons pe_str (pa_cons pe_str pa_nil)))))
      (pss_one (ps_ret (pe_cmpR (op_eqD hr.units) (pe_lc (own := [("line", 5)]) (g := gName 5) (tt := tNot (tB (tCall (spRight T) [] E0 (tCons (tVar 5) tNil)))) (te := tVar 5) rfl nd (pi_list (pv 9)) (blkOk_by (N := NLw) (sc := defScope sLaw) (by decide +kernel)) (fun _ _ _ _ _ => pg_name (i := 5) nd rfl (Or.inl rfl)) (fun _ _ _ _ _ => pts_one (pt_not (pt_val (Tb.pe_callG FR spRight_len (by exact gd) (hr.mono (by decide)) (by rfl) gR kR bR (pa_cons (pv 5) pa_nil))))) (fun _ _ _ _ _ => pv 5)) (pe_lst pa_nil) (nomark _)))))))), ?_⟩
    obtain ⟨a, ns, rfl, hS, hl, hT0, q⟩ := h
    have hu := hu_of hr
    -- pen = _law_pen(script)
    refine ⟨_, rfl, a, ns, rfl, hS, hl, fun p qc ms H1 hm hP1 x1 => ?_⟩
    have t1 := hT0.ext x1
    -- for turn in range(8)
    refine ⟨8, rfl, by decide, by decide, for_range (lo := 0) (n := 8) (fun k σ H' => ∃ (o2 o3 o4 o5 o6 o7 o8 : Option V) (s g : Int), σ = [some (.ref a), some (.ref p), o2, o3, o4, o5, o6, o7, o8, none] ∧ Pen H' p qc ms s g ∧ 0 ≤ s ∧ s ≤ 400 * (k : Int) ∧ Tabs T H') ?_ ?_ ?_⟩
    · exact ⟨none, none, none, none, none, none, none, 0, 0, rfl, hP1, by omega, by omega, t1⟩
    · rintro k σ H2 hk ⟨o2, o3, o4, o5, o6, o7, o8, s, g, rfl, hP2, s0, s1, t2⟩
      -- plain = _law_plain(pen, 10 ** 30)
      refine ⟨_, rfl, _, _, rfl, rfl, ⟨by decide, by decide, by decide⟩, p, qc, ms, s, g, _, rfl, hP2, hm, s0, by omega, by decide, by decide, fun v ss xs r sa ga H3 ok pa a1 b1 hP3 hB3 => ?_⟩
      have t3 := Tabs_but t2 hP2.p hB3
      dsimp only [gName]
      -- table, line = _law_made(pen, plain), _law_text(plain)
      have np : ∀ c, v = .ref c → c ≠ p := fun c ec => by
        obtain ⟨t, a, b, d, ev, ht, _⟩ := pa.ex
        rw [ev] at ec
        cases ec
        exact ne_of ht hP3.p fun z => nomatch z
      refine ⟨_, rfl, _, rfl, p, qc, ms, sa, ga, v, ss, xs, r, rfl, hP3, hm, by omega, by omega, pa, ok, fun x r' sb gb H4 tb al a2 b2 hP4 hB4 => ?_⟩
      have t4 := Tabs_but t3 hP3.p hB4
      have pa4 := pa.but hP3 hB4
      refine ⟨_, rfl, v, ss, xs, r, rfl, pa4, ok, fun H5 e5 => ?_⟩
      refine ⟨_, _, rfl, ?_⟩
      have tb5 := tb.mono e5
      have hP5 : Pen H5 p qc ms sb gb := ⟨e5 _ _ hP4.p, e5 _ _ hP4.q⟩
      have t5 := t4.ext e5
      obtain ⟨gr', gw⟩ := al.good (plain_good ok)
      have tw : TabW C ss xs (wk r) (.ref x) H5 := ⟨x, r', rfl, tb5, gr', gw⟩
      have wb := plain_wb ok
      obtain ⟨ln, ew⟩ := wb.ln (by decide)
      have tx := plain_text (xs := xs) (r := r) ok.s
      have nn := K06.wk_nn ok.w
      generalize eline : Txt.join sp (tblW (srt xs) (rsP ss xs r)) = line at *
      -- if str(table) != line or ..: return False
      let σ1 : L2.St := [some (.ref a), some (.ref p), some (.int (0 + (k : Int))), some v, some (.ref x), some (.str line), o6, o7, o8, none]
      dsimp only
      refine st_ifFN (σ := σ1) (T := T) (t_orN (b := false) (t_lasts fun H6 e6 => t_test ?_) (t_orN (t_lasts fun H6 e6 => t_test ?_) (t_right (i := 5) rfl ln))) t5 fun H6 e6 t6 => ?_
      · have z := K06.g_strT (σ := σ1) (H := H6) (ta := tVar 4) ok.s ok.u (EvP.varP (i := 4) rfl (TabW_N e6 tw)) (fun _ => rfl) (fun k => ⟨(nn k).1, Int.lt_trans (nn k).2 (by decide)⟩)
        rw [tx] at z
        exact g_op z (EvP.var (i := 5) rfl) fun y w H7 e7 ey ew' Q7 q7 => by
          rw [show y = _ from ey, show w = _ from ew']
          refine ⟨rfl, q7 _ _ (Ex.refl _) ?_⟩
          show V.bl (!decide (V.str line = V.str line)) = .bl false
          rw [decide_eq_true rfl]
          rfl
      · have z := g_read (K := K) (C := C) (CB := CB) (CT := CT) (σ := σ1) (H := H6) (te := tVar 5) ok (by rw [eline]; exact EvP.var (i := 5) rfl)
        exact K06.g_neT ok.s ok.u z (EvP.varP (i := 4) rfl (TabW_N e6 tw)) fun _ => rfl
      have hP6 := hP5.N e6
      have tw6 := TabW_N e6 tw
      -- words = line.split(' ')
      refine ⟨_, rfl, ⟨_, rfl⟩, line, " ", rfl, rfl, rfl, by rw [sizeLine_eq]; have := ln.len; omega, fun l nl => ?_⟩
      have el := Ex.new (o := .lst ((ws line).map V.str)) nl
      have hW : upd H6 l (.lst ((ws line).map V.str)) l = some (.lst ((ws line).map V.str)) := upd_same
      have hP7 : Pen (upd H6 l (.lst ((ws line).map V.str))) p qc ms sb gb := ⟨el _ _ hP6.p, el _ _ hP6.q⟩
      have t7 := t6.ext el
      have tw7 := (tabW C ss xs (wk r)).mono _ _ _ el tw6
      generalize upd H6 l (.lst ((ws line).map V.str)) = H7 at hW hP7 t7 tw7 ⊢
      rw [ew] at hW
      dsimp only [gName]
      -- for again in range(3)
      refine ⟨3, rfl, by decide, by decide, for_range (lo := 0) (n := 3) (fun j σ H' => ∃ (l : Addr) (ww : List Str) (o7 : Option V) (s g : Int), σ = [some (.ref a), some (.ref p), some (.int (0 + (k : Int))), some v, some (.ref x), some (.str line), some (.ref l), o7, o8, none] ∧ H' l = some (.lst (ww.map V.str)) ∧ Wb (54 + 2 * j) ww ∧ Pen H' p qc ms s g ∧ 0 ≤ s ∧ s ≤ 400 * (k : Int) + 300 + 4 * (j : Int) ∧ Tabs T H' ∧ TabW C ss xs (wk r) (.ref x) H') ?_ ?_ ?_⟩
      · exact ⟨l, _, o7, sb, gb, rfl, hW, wb, hP7, by omega, by omega, t7, tw7⟩
      · rintro j σ H8 hj ⟨l, ww, o7', sc, gc, rfl, hl8, wb8, hP8, c0, c1, t8, tw8⟩
        refine ⟨_, rfl, _, rfl, p, qc, ms, sc, gc, l, ww, 54 + 2 * j, rfl, hP8, hm, c0, by omega, hl8, wb8, by omega, fun r2 ww' sd gd' H9 hr9 wb9 d0 d1 hP9 hB9 => ?_⟩
        have t9 := Tabs_but t8 hP8.p hB9
        have tw9 : TabW C ss xs (wk r) (.ref x) H9 := by
          obtain ⟨x', r'', ex, tb', g', gw'⟩ := tw8.ex
          exact ⟨x', r'', ex, TblAt_but hP8 hB9 tb', g', gw'⟩
        dsimp only [gName]
        have wb9' : Wb (54 + 2 * (j + 1)) ww' := wb9
        obtain ⟨ln9, _⟩ := wb9'.ln (by omega)
        let σ2 : L2.St := [some (.ref a), some (.ref p), some (.int (0 + (k : Int))), some v, some (.ref x), some (.str line), some (.ref r2), some (.int (0 + (j : Int))), o8, none]
        have gj : ∀ H1, ExtN H9 H1 → EvP.Gives (tM1 (rJoinL K) (tC (.str " ")) (tVar 6)) σ2 H1 (is (.str (Txt.join " " ww'))) := fun H1 e1 => g_join (EvP.varP (i := 6) rfl ⟨r2, rfl, e1 _ _ hr9 (fun ps z => nomatch z)⟩) (by
          have st := sum_tot ww'
          have tt := wb9'.tot
          have fw := wb9'.few
          show _ + _ * 1 ≤ _
          omega)
        refine st_ifFN1 (σ := σ2) (T := T) (t_rightE (gj H9 (ExtN.refl _)) gj ln9) t9 fun H10 e10 t10 => ?_
        exact ⟨r2, ww', _, sd, gd', rfl, e10 _ _ hr9 (fun ps z => nomatch z), wb9', hP9.N e10, by omega, by push_cast; omega, t10, TabW_N e10 tw9⟩
      · rintro σ H8 ⟨l, ww, o7', sc, gc, rfl, hl8, wb8, hP8, c0, c1, t8, tw8⟩
        -- odd = _law_pick(pen, [..])
        refine ⟨_, rfl, ?_⟩
        refine EvP.go (P := lst H8 [is .non, is (.int 0), is (.bl true), lstV [.str line], tupV [.str line], dctP, is (.ref x), is (.int (10 ^ 30))]) (EvP.list (H0 := H8) (Ex.refl _) (EvP.cons EvP.cst (EvP.cons EvP.cst (EvP.cons EvP.cst (EvP.cons (g_one (EvP.var (i := 5) rfl)) (EvP.cons ?t1 (EvP.cons ?t2 (EvP.cons (EvP.var (i := 4) rfl) (EvP.cons ?t3 EvP.nil)))))))) (by show 8 ≤ 1000; decide)) fun v9 H9 e9 hv => ?k9
        case t1 => exact fun G e Q8 q8 => ⟨_, rfl, by show 1 ≤ sizeLine; decide, fun t ht => q8 _ _ (Ex.new ht) ⟨t, rfl, upd_same⟩⟩
        case t2 => exact fun G e Q8 q8 t ht => q8 _ _ (Ex.new ht) ⟨t, rfl, upd_same⟩
        case t3 => exact fun G e Q8 q8 => ⟨_, _, rfl, rfl, ⟨by decide, by decide, by decide⟩, q8 _ _ (Ex.refl _) rfl⟩
        obtain ⟨l2, vs2, rfl, hl2, nl2, all⟩ := hv
        have hP9 : Pen H9 p qc ms sc gc := ⟨e9 _ _ hP8.p, e9 _ _ hP8.q⟩
        have lp : l2 ≠ p := fun z => by
          rw [z, hP8.p] at nl2
          cases nl2
        have t9 := t8.ext e9
        have lv : vs2.length = 8 := all.length
        obtain ⟨x', r'', ex', tb', _, _⟩ := tw8.ex
        cases ex'
        obtain ⟨dx, n1, n2, dw, pp, prs, k1, _⟩ := tb'.ex
        have k19 := e9 _ _ k1
        -- each of them is no text
        have odd : ∀ v ∈ vs2, OddV K p v H9 := by
          intro v hv
          obtain ⟨j, hj⟩ := List.mem_iff_getElem?.mp hv
          have jl : j < 8 := by
            have := (List.getElem?_eq_some_iff.mp hj).1
            omega
          have at_ : ∀ Pj : PR, ([is .non, is (.int 0), is (.bl true), lstV [.str line], tupV [.str line], dctP, is (.ref x), is (.int (10 ^ 30))] : List PR)[j]? = some Pj → Pj.R v H9 := fun Pj h => by
            obtain ⟨x, h1, h2⟩ := all.get h
            rw [hj] at h1
            cases h1
            exact h2
          match j, jl, at_ with
          | 0, _, at_ => rw [show v = _ from at_ _ rfl]; exact ⟨_, kit_ty (by decide +kernel), fun _ _ => .base .non⟩
          | 1, _, at_ => rw [show v = _ from at_ _ rfl]; exact ⟨_, kit_ty (by decide +kernel), fun _ _ => .base (.int 0)⟩
          | 2, _, at_ => rw [show v = _ from at_ _ rfl]; exact ⟨_, kit_ty (by decide +kernel), fun _ _ => .base (.bl true)⟩
          | 3, _, at_ =>
            obtain ⟨t, rfl, ht⟩ := at_ _ rfl
            exact ⟨_, kit_ty (by decide +kernel), fun H' k => .base (.lst (k _ _ ht (ne_of ht hP9.p (fun z => nomatch z)) (fun ps z => nomatch z)))⟩
          | 4, _, at_ =>
            obtain ⟨t, rfl, ht⟩ := at_ _ rfl
            exact ⟨_, kit_ty (by decide +kernel), fun H' k => .base (.tup (k _ _ ht (ne_of ht hP9.p (fun z => nomatch z)) (fun ps z => nomatch z)))⟩
          | 5, _, at_ =>
            obtain ⟨t, rfl, ht⟩ := at_ _ rfl
            exact ⟨_, kit_ty (by decide +kernel), fun H' k => .base (.dK (k _ _ ht (ne_of ht hP9.p (fun z => nomatch z)) (fun ps z => nomatch z)))⟩
          | 6, _, at_ =>
            rw [show v = _ from at_ _ rfl]
            exact ⟨_, kS, fun H' k => .base (.ins (k _ _ k19 (ne_of k19 hP9.p (fun z => nomatch z)) (fun ps z => nomatch z)) M.S.cl M.SI.ha M.SI.hn M.SI.htk M.SI.hm)⟩
          | 7, _, at_ => rw [show v = _ from at_ _ rfl]; exact ⟨_, kit_ty (by decide +kernel), fun _ _ => .base (.int _)⟩
          | j + 8, jl, _ => omega
        refine ⟨p, qc, ms, sc, gc, l2, vs2, rfl, hP9, hm, c0, by omega, hl2, lp, by omega, by omega, fun vo sd gd' H10 hv d0 d1 hP10 hB10 => ?_⟩
        obtain ⟨ty, kt, hty⟩ := odd vo hv
        have t10 := Tabs_but t9 hP9.p hB10
        -- if _law_heard(lambda: Table.read(odd)) != ('text', 0, 0): return False
        refine st_heardOdd (K := K) (C := C) (CB := CB) (CT := CT) (i := 8) (ty := ty) (v := vo) rfl t10 (fun H' e => hty H' fun b o hb nb no => e _ _ (hB10 _ _ hb nb) no) kt fun t H11 e11 t11 ht => ?_
        refine ⟨by show 3 ≤ sizeLine; decide, fun r3 nr => ?_⟩
        have er := Ex.new (o := .tup (badT 0)) nr
        refine ⟨.tuple [.str "text", .int 0, .int ((0 : Nat) : Int)], .tuple [.str "text", .int 0, .int ((0 : Nat) : Int)], .tup (SqT.of (er _ _ ht)) dp_bad, .tup (SqT.of upd_same) dp_bad, bad_shaped, bad_shaped, _, rfl, ?_⟩
        rw [SeqAt.eqv_refl _ (SeqAt.canLay_of_shaped bad_shaped)]
        have hP11 := (hP10.N e11).N (ExtN.of er)
        exact ⟨_, _, _, _, _, _, _, sd, gd', rfl, hP11, by omega, by push_cast; omega, t11.ext er⟩
    · rintro σ H3 ⟨o2, o3, o4, o5, o6, o7, o8, s, g', rfl, hP3, s0, s1, t3⟩
      -- some = ..
      refine ⟨by show 11 ≤ sizeLine; decide, fun l1 hl1 => ?_⟩
      have e4 := Ex.new (o := .lst (some1.map V.str)) hl1
      have h4 : upd H3 l1 (.lst (some1.map V.str)) l1 = some (.lst (some1.map V.str)) := upd_same
      have t4 := t3.ext e4
      refine ⟨_, rfl, by show 4 ≤ sizeLine; decide, fun l2 hl2 => ?_⟩
      have e5 := Ex.new (o := .lst (some2.map V.str)) hl2
      refine ⟨l1, l2, some1.map V.str, some2.map V.str, rfl, rfl, e5 _ _ h4, upd_same, by show 15 ≤ sizeLine; decide, fun l3 hl3 => ?_⟩
      have e6 := Ex.new (o := .lst (some1.map V.str ++ some2.map V.str)) hl3
      have t6 := (t4.ext e5).ext e6
      refine ⟨_, rfl, by show 2 ≤ sizeLine; decide, fun l4 hl4 => ?_⟩
      have e7 := Ex.new (o := .lst (some3.map V.str)) hl4
      refine ⟨l3, l4, some1.map V.str ++ some2.map V.str, some3.map V.str, rfl, rfl, e7 _ _ upd_same, upd_same, by show 17 ≤ sizeLine; decide, fun l5 hl5 => ?_⟩
      have e8 := Ex.new (o := .lst (someL.map V.str)) hl5
      have t8 := (t6.ext e7).ext e8
      have h8 : upd (upd (upd (upd (upd H3 l1 (.lst (some1.map V.str))) l2 (.lst (some2.map V.str))) l3 (.lst (some1.map V.str ++ some2.map V.str))) l4 (.lst (some3.map V.str))) l5 (.lst (someL.map V.str)) l5 = some (.lst (someL.map V.str)) := upd_same
      refine ⟨_, rfl, l5, rfl, ⟨_, SqL.of h8⟩, fun D hD => ?_⟩
      have e9 := Ex.new (o := .lst []) hD
      refine lc_list (K := K) (a := l5) (xs := someL.map V.str) (fun i H' => H' D = some (.lst []) ∧ H' l5 = some (.lst (someL.map V.str)) ∧ Tabs T H') ⟨upd_same, e9 _ _ h8, t8.ext e9⟩ (fun i H' _ h => SqL.of h.2.1) (fun i x H' hx h => ?_) (fun H' h => ?_)
      · obtain ⟨d1, d2, d3⟩ := h
        rw [List.getElem?_map] at hx
        obtain ⟨z, hz, rfl⟩ := Option.map_eq_some_iff.mp hx
        obtain ⟨z1, z2, z3, z4, z5⟩ := someL_ok z (List.mem_of_getElem? hz)
        refine ⟨rfl, ?_⟩
        refine t_right (T := T) (i := 5) (z := z) rfl ⟨⟨z1, z2, z3⟩, z4, z5⟩ H' (ExtN.refl _) d3 _ fun H2 e2 t2 => ?_
        exact ⟨e2 _ _ d1 (fun ps z => nomatch z), e2 _ _ d2 (fun ps z => nomatch z), t2⟩
      · obtain ⟨d1, d2, d3⟩ := h
        refine ⟨by show 0 ≤ sizeLine; decide, fun r nr => ?_⟩
        have er := Ex.new (o := .lst []) nr
        refine ⟨.list [], .list [], .lst (SqL.of (er _ _ d1)) .nil, .lst (SqL.of upd_same) .nil, rfl, rfl, ?_⟩
        exact q _
end
end Wd

set_option Elab.async false
set_option linter.all false
set_option maxRecDepth 100000
set_option maxHeartbeats 4000000
/-! The claim's call: nothing is being shown, and defs hold lambdas. -/
namespace XT
open PySem PySem.Spec PyProof.Rows L2 LamX
def eTab : Obj := { cls := .none, data := .fields #[] }
/-- what is tracked when the call begins: perhaps the script at a, and the tables -/
structure Begun (K : PySem.W.Frag) (cs : List (Addr × Addr)) (a : Addr) (ns : List Int) (H : Hp) : Prop where
  tb : ∀ p ∈ cs, H p.2 = some (.tbl #[])
  all : ∀ b, H b = none ∨ (∃ p ∈ cs, b = p.2) ∨ (b = a ∧ ∃ o xs, H b = some (.frz o (.lst xs)))
  off : ∀ b, H b ≠ none → K.lookup b = none
  seq : SqL K H a (ns.map V.int)
section
variable {P : Program} {w : World} {K : PySem.W.Frag} {mg mb : Str → Option Value} {k : Nat} {f a : Addr} {sp : Sp} {fd : FuncData} {x : Str} {s₁ : Shared} {vs : List Value} {ns : List Int} {cs : List (Addr × Addr)} {H : Hp}
/-- what stands at b is no list, no empty table: it is not tracked -/
theorem Begun.un (B : Begun K cs a ns H) (ht : ∀ p ∈ cs, s₁.heap.get? p.2 = some eTab) (ha : s₁.heap.get? a = some { cls := .type "list", data := .seq vs.toArray }) {b : Addr} {o : Obj} (e : s₁.heap.get? b = some o) (n1 : ∀ us n, o.data ≠ .seq us n) (n2 : o.data ≠ .fields #[]) : H b = none := by
  rcases B.all b with z | ⟨p, hp, rfl⟩ | ⟨rfl, _⟩
  · exact z
  · rw [ht p hp] at e
    cases e
    exact absurd rfl n2
  · rw [ha] at e
    cases e
    exact absurd rfl (n1 _ _)
theorem Begun.nss (B : Begun K cs a ns H) (ht : ∀ p ∈ cs, s₁.heap.get? p.2 = some eTab) (ha : s₁.heap.get? a = some { cls := .type "list", data := .seq vs.toArray }) {b : Addr} {m : Str → Option Value} : s₁.heap.Ns b m → (hidT s₁.heap H).Ns b m := fun ⟨o, es, ep, e, d, r⟩ =>
  ⟨o, es, ep, hidT_get e (B.un ht ha e (fun us n z => by rw [d] at z; cases z) (fun z => by rw [d] at z; cases z)), d, r⟩
theorem Begun.kin (B : Begun K cs a ns H) (kin : K.In s₁.heap) : K.In (hidT s₁.heap H) := fun b o e => hidT_get (kin b o e) (by
  cases q : H b with
  | none => rfl
  | some u =>
    have z := B.off b (by rw [q]; exact fun w => nomatch w)
    rw [z] at e
    cases e)
theorem Begun.tabB (B : Begun K cs a ns H) (ht : ∀ p ∈ cs, s₁.heap.get? p.2 = some eTab) (ha : s₁.heap.get? a = some { cls := .type "list", data := .seq vs.toArray }) (hns : s₁.heap.Ns mainGlobals mg) (hc : ∀ p ∈ cs, PySem.W.CodeHd s₁.heap p.1 p.2)
    (hbm : ∃ (bm : Addr) (ob : Obj), mg "__builtins__" = some (.ref bm) ∧ bm ≠ builtinsNs ∧ s₁.heap.get? bm = some ob ∧ ob.cls = .type "module" ∧ ob.dict = some builtinsNs ∧ ob.data = .plain) : ∀ p ∈ cs, TabB (hidT s₁.heap H) mg p.1 p.2 := fun p hp => by
  obtain ⟨og, eg, pg, hg, dg, _⟩ := hns
  have tp := ht p hp
  refine ⟨?_, ?_, fun z => ?_⟩
  · obtain ⟨o, us, file, tf, flags, tg, inF, text, tt, e1, r1, r2, r3, r4⟩ := hc p hp
    refine ⟨o, us, file, tf, flags, tg, inF, text, tt, hidT_get e1 (B.un ht ha e1 (fun us n z => ?_) fun z => ?_), r1, r2, r3, r4⟩
    · rw [r2] at z
      cases z
    · rw [r2] at z
      cases z
      simp at r3
  · obtain ⟨bm, ob, b1, b2, b3, b4, b5, b6⟩ := hbm
    refine ⟨bm, ob, b1, b2, fun q => ?_, fun q => ?_, hidT_get b3 (B.un ht ha b3 (fun us n z => ?_) fun z => ?_), b4, b5, b6⟩
    · rw [q, hg] at b3
      cases b3
      rw [dg] at b6
      cases b6
    · rw [q, tp] at b3
      cases b3
      cases b6
    · rw [b6] at z
      cases z
    · rw [b6] at z
      cases z
  · rw [z, tp] at hg
    cases hg
    cases dg
theorem run_begun (B : Begun K cs a ns H) (kin : K.In s₁.heap) (hns : s₁.heap.Ns mainGlobals mg) (hb : s₁.heap.Ns builtinsNs mb) (hbb : ∀ x : Str, x ≠ "__name__" → mb x = bootBuiltins x) (lim : s₁.heap.NoLimit) (gens : s₁.gens = #[])
    (ht : ∀ p ∈ cs, s₁.heap.get? p.2 = some eTab) (hc : ∀ p ∈ cs, PySem.W.CodeHd s₁.heap p.1 p.2) (hbm : ∃ (bm : Addr) (ob : Obj), mg "__builtins__" = some (.ref bm) ∧ bm ≠ builtinsNs ∧ s₁.heap.get? bm = some ob ∧ ob.cls = .type "module" ∧ ob.dict = some builtinsNs ∧ ob.data = .plain)
    (ha : s₁.heap.get? a = some { cls := .type "list", data := .seq vs.toArray }) (room : Room k callerA) (hok : HOk P w H s₁.heap)
    (F : ∀ base : Heap, K.In base → base.Ns mainGlobals mg → (∀ p ∈ cs, TabB base mg p.1 p.2) → XG.FnG P w K mg base CX0 k f fd [x] sp) (bind : ∀ (s : Shared) (u : Value), BindsTo s fd ⟨[u], []⟩ [(x, u)])
    (h : sp [.ref a] H (fun v _ => v = .bl true) fun _ _ _ => False) :
    codeAny (model P w) callerA (.call (.ref f) ⟨[.ref a], []⟩) (fun r s' => r = .ok (.ret (.bool true)) ∧ OldK s₁.heap s'.heap ∧ s'.os = s₁.os ∧ AllBare s'.gens) s₁ := by
  have kinI := B.kin kin
  obtain ⟨mc, lim1, lim2⟩ := lim
  have e0 : Env0 P w K mg (hidT s₁.heap H) callerA [] s₁ H := {
    frames := rfl
    mod := ⟨kinI, B.nss ht ha hns, ⟨mb, B.nss ht ha hb, hbb⟩, mc, B.nss ht ha lim1, lim2⟩
    bs := fun b o e => of_hidT e
    bsz := Nat.le_of_eq (hidT_size _ _)
    funs := trivial
    frf := fun b z => absurd (show b ∈ ([] : List Addr) from z) List.not_mem_nil
    hok := hok
    bare := .of_eq gens }
  have run := F _ kinI (B.nss ht ha hns) (B.tabB ht ha hns hc hbm) callerA [] s₁ H ⟨[.ref a], []⟩ [.ref a] [.ref a] _ _ rfl room e0 (bind s₁ (.ref a)) (.cons rfl .nil) h
  refine codeAny_mono run fun r s' z => ?_
  rcases r with e | (u | _ | _ | _)
  all_goals first | exact (show False from z).elim | skip
  obtain ⟨v, H', os, bare, un, hok', rv, q⟩ := z
  obtain rfl : v = .bl true := q
  cases (show _ = Value.bool true from rv)
  have grow : ∀ p ∈ cs, ∃ more : Array Value, s'.heap.get? p.2 = some { cls := .none, data := .fields more } := fun p hp => by
    obtain ⟨more, z⟩ := un.tbls p.2 #[] (B.tb p hp)
    exact ⟨_, hok' p.2 _ z⟩
  have stay : ∀ b o, (¬ ∃ p ∈ cs, b = p.2) → s₁.heap.get? b = some o → s'.heap.get? b = some o := fun b o no e => by
    cases q : H b with
    | none => exact un.keep b o e q (fun z => List.not_mem_nil (show b ∈ ([] : List Addr) from z)) List.not_mem_nil
    | some t =>
      rcases B.all b with z | z | ⟨_, ob, xs, z⟩
      · rw [q] at z
        cases z
      · exact absurd z no
      · have before := (hok b _ z).1
        rw [e] at before
        cases before
        exact (hok' b _ (un.frzs b _ _ z)).1
  refine ⟨rfl, ⟨fun b o e => ?_, fun b o e => ?_⟩, os, bare⟩
  · by_cases hm : ∃ p ∈ cs, b = p.2
    · obtain ⟨p, hp, rfl⟩ := hm
      obtain ⟨more, g⟩ := grow p hp
      have tp := ht p hp
      have e' := e
      rw [tp] at e'
      cases e'
      exact .inr (.inl ⟨((hc p hp).tab tp).isCodeTable, rfl, #[], more, rfl, by rw [Array.empty_append]; exact g⟩)
    · exact .inl (stay b o hm e)
  · by_cases hm : ∃ p ∈ cs, b = p.2
    · obtain ⟨p, hp, rfl⟩ := hm
      obtain ⟨more, g⟩ := grow p hp
      exact ⟨_, g⟩
    · exact ⟨o, stay b o hm e⟩
end
/-- what is known of the law's promise at the head's heap -/
def AtG (l : PySem.W.OpenLaw) (w : World) (K : PySem.W.Frag) (k n : Nat) (x : Str) (mg : Str → Option Value) (fa : Addr) (h : Heap) : Prop :=
  ∃ (fd : FuncData) (cs : List (Addr × Addr)) (sp : Sp), (∀ p ∈ cs, h.get? p.2 = some eTab) ∧ (∀ p ∈ cs, K.lookup p.2 = none) ∧ (∀ p ∈ cs, PySem.W.CodeHd h p.1 p.2) ∧ (∀ (s : Shared) (u : Value), BindsTo s fd ⟨[u], []⟩ [(x, u)]) ∧
    (∀ (H : Hp) (a : Addr) (ns : List Int), ns.length ≤ n → (∀ p ∈ cs, H p.2 = some (.tbl #[])) → SqL K H a (ns.map V.int) → sp [.ref a] H (fun v _ => v = .bl true) fun _ _ _ => False) ∧
    ∀ base : Heap, K.In base → base.Ns mainGlobals mg → (∀ p ∈ cs, TabB base mg p.1 p.2) → XG.FnG l.prog w K mg base CX0 k fa fd [x] sp
theorem walk_tabs {l : PySem.W.OpenLaw} {n k : Nat} {q : Program} {loose : List Str} {XP : (Str → Option Value) → Heap → Prop} {YP : World → Heap → Prop} {d : DefRec} {K : Params → PySem.W.Frag} {x : Str} (xs : List Str)
    (hn : l.most = some n) (hn2 : n ≤ sizeLine) (hdf : d.params.defaults = []) (room : Room k callerA) (hrec : ∀ y ∈ xs, ((recsOf q).any fun e => e.name == y) = true) (hY : ∀ (w : World) (h : Heap), YP w h → (K w.params).In h)
    (F : ∀ (w : World) (mg : Str → Option Value) (fa : Addr) (h : Heap), YP w h → (K w.params).In h → h.Ns mainGlobals mg → mg d.name = some (.ref fa) → (∀ y ∈ xs, ∀ fy, mg y = some (.ref fy) → OwnTab (K w.params) fy h) → AtG l w (K w.params) k n x mg fa h) :
    PySem.W.WalkO q loose XP YP l.row.toRowW d [] (fun f vs => PySem.call f vs) := by
  refine Att.attach_call hn hdf fun w s₀ s₁ mg mb fa o pm cd doc a vs ns G Y _ _ _ hmg obj hints short gens => ?_
  have kin := hY w _ Y
  have own : ∀ y ∈ xs, ∀ fy, mg y = some (.ref fy) → OwnTab (K w.params) fy s₁.heap := fun y hy fy hfy c P o1 fd1 e dd vs1 sl k1 k2 k3 k4 k5 => by
    obtain ⟨r, hm, hn1⟩ := List.any_eq_true.mp (hrec y hy)
    have hn2 : r.name = y := beq_iff_eq.mp hn1
    obtain ⟨a', o', fd', c', P', h1, h2, h3, h4, h5, ⟨oc, vc, g1, _, g3, g4⟩, hP⟩ := G.T.tab r hm
    rw [hn2, hfy] at h1
    cases h1
    have y1 := kin _ _ k1
    rw [y1] at h2
    cases h2
    rw [k2] at h3
    cases h3
    rw [k3] at h4
    cases h4
    have y2 := kin _ _ k4
    rw [y2] at g1
    cases g1
    cases g3
    rw [k5] at g4
    cases g4
    exact hP
  obtain ⟨fd, cs, sp, ht, off, hc, bind, hsp, hF⟩ := F w mg fa _ Y kin G.T.g hmg own
  have rv := vals_ints hints
  have lz : (ns.map V.int).length ≤ sizeLine := by rw [List.length_map]; exact Nat.le_trans short hn2
  have go : ∀ {H : Hp}, Begun (K w.params) cs a ns H → HOk l.prog w H s₁.heap → _ := fun {H} B hok =>
    run_begun (x := x) B kin G.T.g G.T.b G.T.builtins G.T.nolimit gens ht hc G.T.bmain obj room hok hF bind (hsp H a ns short B.tb B.seq)
  have aT : ¬ ∃ p ∈ cs, a = p.2 := fun ⟨p, hp, z⟩ => by
    have e := ht p hp
    rw [← z, obj] at e
    exact absurd (congrArg Obj.data (Option.some.inj e)) (fun z => nomatch (show Data.seq vs.toArray _ = Data.fields #[] from z))
  classical
  let Ht : Hp := fun b => if ∃ p ∈ cs, b = p.2 then some (.tbl #[]) else none
  have atT : ∀ p ∈ cs, Ht p.2 = some (.tbl #[]) := fun p hp => if_pos ⟨p, hp, rfl⟩
  cases hk : (K w.params).lookup a with
  | some u =>
    have e := kin a u hk
    rw [obj] at e
    cases e
    refine go (H := Ht) ⟨atT, fun b => ?_, fun b z => ?_, .inr ⟨_, vs.toArray, _, hk, rfl, rfl, rfl, by rw [List.size_toArray, hints.length]; exact Nat.le_trans short hn2, by simpa using rv⟩⟩ fun b t z => ?_
    · by_cases hb : ∃ p ∈ cs, b = p.2
      · exact .inr (.inl hb)
      · exact .inl (if_neg hb)
    · by_cases hb : ∃ p ∈ cs, b = p.2
      · obtain ⟨p, hp, rfl⟩ := hb
        exact off p hp
      · exact absurd (if_neg hb) z
    · by_cases hb : ∃ p ∈ cs, b = p.2
      · cases (if_pos hb).symm.trans z
        obtain ⟨p, hp, rfl⟩ := hb
        exact ht p hp
      · cases (if_neg hb).symm.trans z
  | none =>
    let fz : HO := .frz { cls := .type "list", data := .seq vs.toArray } (.lst (ns.map V.int))
    refine go (H := upd Ht a fz) ⟨fun p hp => ?_, fun b => ?_, fun b z => ?_, .inl (.inr ⟨_, upd_same⟩)⟩ fun b t z => ?_
    · rw [upd_ne (fun w => aT ⟨p, hp, w.symm⟩)]
      exact atT p hp
    · by_cases ha : b = a
      · exact .inr (.inr ⟨ha, _, _, by rw [ha]; exact upd_same⟩)
      · rw [upd_ne ha]
        by_cases hb : ∃ p ∈ cs, b = p.2
        · exact .inr (.inl hb)
        · exact .inl (if_neg hb)
    · by_cases ha : b = a
      · rw [ha]
        exact hk
      · rw [upd_ne ha] at z
        by_cases hb : ∃ p ∈ cs, b = p.2
        · obtain ⟨p, hp, rfl⟩ := hb
          exact off p hp
        · exact absurd (if_neg hb) z
    · by_cases ha : b = a
      · rw [ha, upd_same] at z
        cases z
        rw [ha]
        exact ⟨obj, lz, vs, _, rv, obj⟩
      · rw [upd_ne ha] at z
        by_cases hb : ∃ p ∈ cs, b = p.2
        · cases (if_pos hb).symm.trans z
          obtain ⟨p, hp, rfl⟩ := hb
          exact ht p hp
        · cases (if_neg hb).symm.trans z
end XT

set_option Elab.async false
set_option linter.all false
set_option maxRecDepth 100000
set_option maxHeartbeats 4000000
/-! The facts of the text, put together. -/
namespace Wd
open PySem PySem.Spec PyProof.Rows L2 EvP Cm Fk LamX XT
open Dg hiding numT
def errB : Stmt := match Fk.top 8 with
  | .ClassDef _ _ _ body _ _ _ _ _ _ _ => body.getD 0 (.Pass ⟨0, 0, 0, 0⟩)
  | _ => .Pass ⟨0, 0, 0, 0⟩
def errT : Stmt := match Fk.top 9 with
  | .ClassDef _ _ _ body _ _ _ _ _ _ _ => body.getD 0 (.Pass ⟨0, 0, 0, 0⟩)
  | _ => .Pass ⟨0, 0, 0, 0⟩
theorem scErrB : FnScope ["self", "line", "word"] ["self", "line", "word"] (defScope errB) := ⟨rfl, rfl, rfl, by decide +kernel, rfl, by decide +kernel, by decide +kernel⟩
theorem scErrT : FnScope ["self", "what", "most"] ["self", "what", "most"] (defScope errT) := ⟨rfl, rfl, rfl, by decide +kernel, rfl, by decide +kernel, by decide +kernel⟩
/-- what a class of errors tells -/
def excB (K : PySem.W.Frag) (CL fE : Addr) (n1 n2 : Str) : Bool :=
  decide (PySem.W.findIn K (.ref CL) "__getattribute__" = some (some (.builtin "BaseException.__getattribute__"))) && (decide (PySem.W.findIn K (.ref CL) "__getattr__" = some none) &&
  (decide (PySem.W.subIn K (.ref CL) (.type "BaseException") = some true) && (PySem.W.hasDictIn K CL && (decide (PySem.W.typeIn K (.ref CL) = some (.type "type")) && (PySem.W.keepIn K (.ref CL) && (decide (PySem.W.findIn K (.ref CL) "__setattr__" = some (some (.builtin "object.__setattr__"))) &&
  (decide (PySem.W.typeIn K (.ref fE) = some (.type "function")) && (decide (PySem.W.findIn K (.ref CL) n1 = some none) && decide (PySem.W.findIn K (.ref CL) n2 = some none)))))))))
/-- which clause takes which -/
def exmB (K : PySem.W.Frag) (CB CT : Addr) : Bool :=
  decide (PySem.W.exmOne K (.ref CB) (.ref CB) = some true) && (decide (PySem.W.exmOne K (.ref CT) (.ref CB) = some false) && decide (PySem.W.exmOne K (.ref CT) (.ref CT) = some true))
theorem and2 {a b : Bool} (h : (a && b) = true) : a = true ∧ b = true := Bool.and_eq_true_iff.mp h
theorem all_mk {P : Program} {w : World} {K : PySem.W.Frag} {l : PySem.W.OpenLaw} {h : Heap} {mg : Str → Option Value} {fa : Addr} (hl : l.prog = P) (X : K.In h) (G : h.Ns mainGlobals mg) (hfa : mg "law" = some (.ref fa)) (own : ∀ y ∈ (["_law_read_right", "law"] : List Str), ∀ fy, mg y = some (.ref fy) → OwnTab K fy h)
    {g0 : Addr} {Oc0 KV0 Dc0 Pm0 Cd0 Ct0 : Value} {Od0 An0 : Option Addr} {Sl0 : Array (Option Value)}
    {g1 : Addr} {Oc1 KV1 Dc1 Pm1 Cd1 Ct1 : Value} {Od1 An1 : Option Addr} {Sl1 : Array (Option Value)}
    {g2 : Addr} {Oc2 KV2 Dc2 Pm2 Cd2 Ct2 : Value} {Od2 An2 : Option Addr} {Sl2 : Array (Option Value)}
    {g3 : Addr} {Oc3 KV3 Dc3 Pm3 Cd3 Ct3 : Value} {Od3 An3 : Option Addr} {Sl3 : Array (Option Value)}
    {g4 : Addr} {Oc4 KV4 Dc4 Pm4 Cd4 Ct4 : Value} {Od4 An4 : Option Addr} {Sl4 : Array (Option Value)}
    {g5 : Addr} {Oc5 KV5 Dc5 Pm5 Cd5 Ct5 : Value} {Od5 An5 : Option Addr} {Sl5 : Array (Option Value)}
    {g6 : Addr} {Oc6 KV6 Dc6 Pm6 Cd6 Ct6 : Value} {Od6 An6 : Option Addr} {Sl6 : Array (Option Value)}
    {g7 : Addr} {Oc7 KV7 Dc7 Pm7 Cd7 Ct7 : Value} {Od7 An7 : Option Addr} {Sl7 : Array (Option Value)}
    {g8 : Addr} {Oc8 KV8 Dc8 Pm8 Cd8 Ct8 : Value} {Od8 An8 : Option Addr} {Sl8 : Array (Option Value)}
    {g9 : Addr} {Oc9 KV9 Dc9 Pm9 Cd9 Ct9 : Value} {Od9 An9 : Option Addr} {Sl9 : Array (Option Value)}
    {g10 : Addr} {Oc10 KV10 Dc10 Pm10 Cd10 Ct10 : Value} {Od10 An10 : Option Addr} {Sl10 : Array (Option Value)}
    {g11 : Addr} {Oc11 KV11 Dc11 Pm11 Cd11 Ct11 : Value} {Od11 An11 : Option Addr} {Sl11 : Array (Option Value)}
    {g12 : Addr} {Oc12 KV12 Dc12 Pm12 Cd12 Ct12 : Value} {Od12 An12 : Option Addr} {Sl12 : Array (Option Value)}
    {g13 : Addr} {Oc13 KV13 Dc13 Pm13 Cd13 Ct13 : Value} {Od13 An13 : Option Addr} {Sl13 : Array (Option Value)}
    {g14 : Addr} {Oc14 KV14 Dc14 Pm14 Cd14 Ct14 : Value} {Od14 An14 : Option Addr} {Sl14 : Array (Option Value)}
    {g15 : Addr} {Oc15 KV15 Dc15 Pm15 Cd15 Ct15 : Value} {Od15 An15 : Option Addr} {Sl15 : Array (Option Value)}
    {g16 : Addr} {Oc16 KV16 Dc16 Pm16 Cd16 Ct16 : Value} {Od16 An16 : Option Addr} {Sl16 : Array (Option Value)}
    {g17 : Addr} {Oc17 KV17 Dc17 Pm17 Cd17 Ct17 : Value} {Od17 An17 : Option Addr} {Sl17 : Array (Option Value)}
    {g18 : Addr} {Oc18 KV18 Dc18 Pm18 Cd18 Ct18 : Value} {Od18 An18 : Option Addr} {Sl18 : Array (Option Value)}
    {g19 : Addr} {Oc19 KV19 Dc19 Pm19 Cd19 Ct19 : Value} {Od19 An19 : Option Addr} {Sl19 : Array (Option Value)}
    {g20 : Addr} {Oc20 KV20 Dc20 Pm20 Cd20 Ct20 : Value} {Od20 An20 : Option Addr} {Sl20 : Array (Option Value)}
    {g21 : Addr} {Oc21 KV21 Dc21 Pm21 Cd21 Ct21 : Value} {Od21 An21 : Option Addr} {Sl21 : Array (Option Value)}
    {g22 : Addr} {Oc22 KV22 Dc22 Pm22 Cd22 Ct22 : Value} {Od22 An22 : Option Addr} {Sl22 : Array (Option Value)}
    {g23 : Addr} {Oc23 KV23 Dc23 Pm23 Cd23 Ct23 : Value} {Od23 An23 : Option Addr} {Sl23 : Array (Option Value)}
    {g24 : Addr} {Oc24 KV24 Dc24 Pm24 Cd24 Ct24 : Value} {Od24 An24 : Option Addr} {Sl24 : Array (Option Value)}
    {g25 : Addr} {Oc25 KV25 Dc25 Pm25 Cd25 Ct25 : Value} {Od25 An25 : Option Addr} {Sl25 : Array (Option Value)}
    {g26 : Addr} {Oc26 KV26 Dc26 Pm26 Cd26 Ct26 : Value} {Od26 An26 : Option Addr} {Sl26 : Array (Option Value)}
    {g27 : Addr} {Oc27 KV27 Dc27 Pm27 Cd27 Ct27 : Value} {Od27 An27 : Option Addr} {Sl27 : Array (Option Value)}
    {g28 : Addr} {Oc28 KV28 Dc28 Pm28 Cd28 Ct28 : Value} {Od28 An28 : Option Addr} {Sl28 : Array (Option Value)}
    {gP cP PP : Addr} {OcP KVP DcP PmP CtP eP : Value} {OdP AnP ddP : Option Addr} {SlP slP : Array (Option Value)} {vsP : Array Value}
    {gL cL PL : Addr} {OcL KVL DcL PmL CtL eL : Value} {OdL AnL ddL : Option Addr} {SlL slL : Array (Option Value)} {vsL : Array Value}
    {tL tK tB t1 t2 t6 : Tok} {aN : Addr} {dN : Option Addr} {nN : Nat} {sN : Array (Option Value)}
    {CB fE_B : Addr} {nmE_B qE_B : Str} {NE_B : Addr} {bsE_B bmE_B : List Value} {snE_B : List Str} {subE_B : List Value} {abE_B : Bool} {colE_B : Option Bool} {ddE_B : Option Addr} {m0E_B m1E_B m2E_B m3E_B m5E_B : Option Value} {ocE_B kVE_B dcE_B pmE_B cdE_B ctE_B : Value} {odE_B anE_B : Option Addr} {slE_B : Array (Option Value)}
    {CT fE_T : Addr} {nmE_T qE_T : Str} {NE_T : Addr} {bsE_T bmE_T : List Value} {snE_T : List Str} {subE_T : List Value} {abE_T : Bool} {colE_T : Option Bool} {ddE_T : Option Addr} {m0E_T m1E_T m2E_T m3E_T m5E_T : Option Value} {ocE_T kVE_T dcE_T pmE_T cdE_T ctE_T : Value} {odE_T anE_T : Option Addr} {slE_T : Array (Option Value)}
    {C fi aE TE : Addr} {oci kVi dci pmi cdi cti : Value} {odi ani dE : Option Addr} {sli sE : Array (Option Value)} {nE : Nat} {cTE : Value} {dTE : Option Addr} {nTE : Nat} {sTE : Array (Option Value)}
    {f0 : Addr} {oc0 kV0 dc0 pm0 cd0 ct0 : Value} {od0 an0 : Option Addr} {sl0 : Array (Option Value)}
    {f1 : Addr} {oc1 kV1 dc1 pm1 cd1 ct1 : Value} {od1 an1 : Option Addr} {sl1 : Array (Option Value)}
    {f2 : Addr} {oc2 kV2 dc2 pm2 cd2 ct2 : Value} {od2 an2 : Option Addr} {sl2 : Array (Option Value)}
    {pR fR : Addr} {rR : List Value} {ocR kVR dcR pmR cdR ctR : Value} {odR anR : Option Addr} {slR : Array (Option Value)}
    {CW : Addr}
    {h0 : Addr} {wc0 wV0 wo0 wp0 wd0 wt0 : Value} {wq0 wn0 : Option Addr} {wl0 : Array (Option Value)}
    {h1 : Addr} {wc1 wV1 wo1 wp1 wd1 wt1 : Value} {wq1 wn1 : Option Addr} {wl1 : Array (Option Value)}
    {h2 : Addr} {wc2 wV2 wo2 wp2 wd2 wt2 : Value} {wq2 wn2 : Option Addr} {wl2 : Array (Option Value)}
    {h3 : Addr} {wc3 wV3 wo3 wp3 wd3 wt3 : Value} {wq3 wn3 : Option Addr} {wl3 : Array (Option Value)}
    {h4 : Addr} {wc4 wV4 wo4 wp4 wd4 wt4 : Value} {wq4 wn4 : Option Addr} {wl4 : Array (Option Value)}
    {h5 : Addr} {wc5 wV5 wo5 wp5 wd5 wt5 : Value} {wq5 wn5 : Option Addr} {wl5 : Array (Option Value)}
    {gd_I : Addr} {oc_I kv_I dc_I pm_I cd_I ct_I : Value} {od_I an_I : Option Addr} {sl_I : Array (Option Value)} {T_I : Addr} {cT_I : Value} {dT_I : Option Addr} {nT_I : Nat} {sT_I : Array (Option Value)}
    {gd_N : Addr} {oc_N kv_N dc_N pm_N cd_N ct_N : Value} {od_N an_N : Option Addr} {sl_N : Array (Option Value)} {T_N : Addr} {cT_N : Value} {dT_N : Option Addr} {nT_N : Nat} {sT_N : Array (Option Value)} {ts_N tu_N : Tok}
    (A0 : PySem.W.nsIn K mainGlobals "is_amount" = some (some (.ref g0)))
    (L0 : K.lookup g0 = some ⟨Oc0, Od0, .func (PySem.W.fnOf "is_amount" "is_amount" (defArgs Fk.sAmount) (defBody Fk.sAmount) (defScope Fk.sAmount) .none KV0 Dc0 Pm0 An0 Cd0 Ct0), Sl0⟩)
    (D0 : PySem.W.codeIn K Cd0 "is_amount" = true)
    (E0 : PySem.W.keepIn K (.ref g0) = true)
    (A1 : PySem.W.nsIn K mainGlobals "is_name" = some (some (.ref g1)))
    (L1 : K.lookup g1 = some ⟨Oc1, Od1, .func (PySem.W.fnOf "is_name" "is_name" (defArgs Fk.sName) (defBody Fk.sName) (defScope Fk.sName) .none KV1 Dc1 Pm1 An1 Cd1 Ct1), Sl1⟩)
    (D1 : PySem.W.codeIn K Cd1 "is_name" = true)
    (E1 : PySem.W.keepIn K (.ref g1) = true)
    (A2 : PySem.W.nsIn K mainGlobals "check_names" = some (some (.ref g2)))
    (L2 : K.lookup g2 = some ⟨Oc2, Od2, .func (PySem.W.fnOf "check_names" "check_names" (defArgs Fk.sNames) (defBody Fk.sNames) (defScope Fk.sNames) .none KV2 Dc2 Pm2 An2 Cd2 Ct2), Sl2⟩)
    (D2 : PySem.W.codeIn K Cd2 "check_names" = true)
    (E2 : PySem.W.keepIn K (.ref g2) = true)
    (A3 : PySem.W.nsIn K mainGlobals "number_text" = some (some (.ref g3)))
    (L3 : K.lookup g3 = some ⟨Oc3, Od3, .func (PySem.W.fnOf "number_text" "number_text" (defArgs Fk.sNum) (defBody Fk.sNum) (defScope Fk.sNum) .none KV3 Dc3 Pm3 An3 Cd3 Ct3), Sl3⟩)
    (D3 : PySem.W.codeIn K Cd3 "number_text" = true)
    (E3 : PySem.W.keepIn K (.ref g3) = true)
    (A4 : PySem.W.nsIn K mainGlobals "check_worths" = some (some (.ref g4)))
    (L4 : K.lookup g4 = some ⟨Oc4, Od4, .func (PySem.W.fnOf "check_worths" "check_worths" (defArgs Fk.sAmounts) (defBody Fk.sAmounts) (defScope Fk.sAmounts) .none KV4 Dc4 Pm4 An4 Cd4 Ct4), Sl4⟩)
    (D4 : PySem.W.codeIn K Cd4 "check_worths" = true)
    (E4 : PySem.W.keepIn K (.ref g4) = true)
    (A5 : PySem.W.nsIn K mainGlobals "is_pair" = some (some (.ref g5)))
    (L5 : K.lookup g5 = some ⟨Oc5, Od5, .func (PySem.W.fnOf "is_pair" "is_pair" (defArgs Fk.sPair) (defBody Fk.sPair) (defScope Fk.sPair) .none KV5 Dc5 Pm5 An5 Cd5 Ct5), Sl5⟩)
    (D5 : PySem.W.codeIn K Cd5 "is_pair" = true)
    (E5 : PySem.W.keepIn K (.ref g5) = true)
    (A6 : PySem.W.nsIn K mainGlobals "is_row" = some (some (.ref g6)))
    (L6 : K.lookup g6 = some ⟨Oc6, Od6, .func (PySem.W.fnOf "is_row" "is_row" (defArgs Fk.sRow) (defBody Fk.sRow) (defScope Fk.sRow) .none KV6 Dc6 Pm6 An6 Cd6 Ct6), Sl6⟩)
    (D6 : PySem.W.codeIn K Cd6 "is_row" = true)
    (E6 : PySem.W.keepIn K (.ref g6) = true)
    (A7 : PySem.W.nsIn K mainGlobals "ascending" = some (some (.ref g7)))
    (L7 : K.lookup g7 = some ⟨Oc7, Od7, .func (PySem.W.fnOf "ascending" "ascending" (defArgs Tb.sAsc) (defBody Tb.sAsc) (defScope Tb.sAsc) .none KV7 Dc7 Pm7 An7 Cd7 Ct7), Sl7⟩)
    (D7 : PySem.W.codeIn K Cd7 "ascending" = true)
    (E7 : PySem.W.keepIn K (.ref g7) = true)
    (A8 : PySem.W.nsIn K mainGlobals "unlike" = some (some (.ref g8)))
    (L8 : K.lookup g8 = some ⟨Oc8, Od8, .func (PySem.W.fnOf "unlike" "unlike" (defArgs Tb.sUnlike) (defBody Tb.sUnlike) (defScope Tb.sUnlike) .none KV8 Dc8 Pm8 An8 Cd8 Ct8), Sl8⟩)
    (D8 : PySem.W.codeIn K Cd8 "unlike" = true)
    (E8 : PySem.W.keepIn K (.ref g8) = true)
    (A9 : PySem.W.nsIn K mainGlobals "joined" = some (some (.ref g9)))
    (L9 : K.lookup g9 = some ⟨Oc9, Od9, .func (PySem.W.fnOf "joined" "joined" (defArgs Tb.sJoined) (defBody Tb.sJoined) (defScope Tb.sJoined) .none KV9 Dc9 Pm9 An9 Cd9 Ct9), Sl9⟩)
    (D9 : PySem.W.codeIn K Cd9 "joined" = true)
    (E9 : PySem.W.keepIn K (.ref g9) = true)
    (A10 : PySem.W.nsIn K mainGlobals "check_table" = some (some (.ref g10)))
    (L10 : K.lookup g10 = some ⟨Oc10, Od10, .func (PySem.W.fnOf "check_table" "check_table" (defArgs Tb.sCheck) (defBody Tb.sCheck) (defScope Tb.sCheck) .none KV10 Dc10 Pm10 An10 Cd10 Ct10), Sl10⟩)
    (D10 : PySem.W.codeIn K Cd10 "check_table" = true)
    (E10 : PySem.W.keepIn K (.ref g10) = true)
    (A11 : PySem.W.nsIn K mainGlobals "row_text" = some (some (.ref g11)))
    (L11 : K.lookup g11 = some ⟨Oc11, Od11, .func (PySem.W.fnOf "row_text" "row_text" (defArgs Tb.sRowT) (defBody Tb.sRowT) (defScope Tb.sRowT) .none KV11 Dc11 Pm11 An11 Cd11 Ct11), Sl11⟩)
    (D11 : PySem.W.codeIn K Cd11 "row_text" = true)
    (E11 : PySem.W.keepIn K (.ref g11) = true)
    (A12 : PySem.W.nsIn K mainGlobals "number_of" = some (some (.ref g12)))
    (L12 : K.lookup g12 = some ⟨Oc12, Od12, .func (PySem.W.fnOf "number_of" "number_of" (defArgs Wd.sNumOf) (defBody Wd.sNumOf) (defScope Wd.sNumOf) .none KV12 Dc12 Pm12 An12 Cd12 Ct12), Sl12⟩)
    (D12 : PySem.W.codeIn K Cd12 "number_of" = true)
    (E12 : PySem.W.keepIn K (.ref g12) = true)
    (A13 : PySem.W.nsIn K mainGlobals "is_number_text" = some (some (.ref g13)))
    (L13 : K.lookup g13 = some ⟨Oc13, Od13, .func (PySem.W.fnOf "is_number_text" "is_number_text" (defArgs Wd.sIsNum) (defBody Wd.sIsNum) (defScope Wd.sIsNum) .none KV13 Dc13 Pm13 An13 Cd13 Ct13), Sl13⟩)
    (D13 : PySem.W.codeIn K Cd13 "is_number_text" = true)
    (E13 : PySem.W.keepIn K (.ref g13) = true)
    (A14 : PySem.W.nsIn K mainGlobals "take_rows" = some (some (.ref g14)))
    (L14 : K.lookup g14 = some ⟨Oc14, Od14, .func (PySem.W.fnOf "take_rows" "take_rows" (defArgs (Fk.top 35)) (defBody (Fk.top 35)) (defScope (Fk.top 35)) .none KV14 Dc14 Pm14 An14 Cd14 Ct14), Sl14⟩)
    (D14 : PySem.W.codeIn K Cd14 "take_rows" = true)
    (E14 : PySem.W.keepIn K (.ref g14) = true)
    (A15 : PySem.W.nsIn K mainGlobals "_law_pen" = some (some (.ref g15)))
    (L15 : K.lookup g15 = some ⟨Oc15, Od15, .func (PySem.W.fnOf "_law_pen" "_law_pen" (defArgs K06.sPen) (defBody K06.sPen) (defScope K06.sPen) .none KV15 Dc15 Pm15 An15 Cd15 Ct15), Sl15⟩)
    (D15 : PySem.W.codeIn K Cd15 "_law_pen" = true)
    (E15 : PySem.W.keepIn K (.ref g15) = true)
    (A16 : PySem.W.nsIn K mainGlobals "_law_draw" = some (some (.ref g16)))
    (L16 : K.lookup g16 = some ⟨Oc16, Od16, .func (PySem.W.fnOf "_law_draw" "_law_draw" (defArgs K06.sDraw) (defBody K06.sDraw) (defScope K06.sDraw) .none KV16 Dc16 Pm16 An16 Cd16 Ct16), Sl16⟩)
    (D16 : PySem.W.codeIn K Cd16 "_law_draw" = true)
    (E16 : PySem.W.keepIn K (.ref g16) = true)
    (A17 : PySem.W.nsIn K mainGlobals "_law_pick" = some (some (.ref g17)))
    (L17 : K.lookup g17 = some ⟨Oc17, Od17, .func (PySem.W.fnOf "_law_pick" "_law_pick" (defArgs K06.sPick) (defBody K06.sPick) (defScope K06.sPick) .none KV17 Dc17 Pm17 An17 Cd17 Ct17), Sl17⟩)
    (D17 : PySem.W.codeIn K Cd17 "_law_pick" = true)
    (E17 : PySem.W.keepIn K (.ref g17) = true)
    (A18 : PySem.W.nsIn K mainGlobals "_law_plain" = some (some (.ref g18)))
    (L18 : K.lookup g18 = some ⟨Oc18, Od18, .func (PySem.W.fnOf "_law_plain" "_law_plain" (defArgs K06.sPlain) (defBody K06.sPlain) (defScope K06.sPlain) .none KV18 Dc18 Pm18 An18 Cd18 Ct18), Sl18⟩)
    (D18 : PySem.W.codeIn K Cd18 "_law_plain" = true)
    (E18 : PySem.W.keepIn K (.ref g18) = true)
    (A19 : PySem.W.nsIn K mainGlobals "_law_names" = some (some (.ref g19)))
    (L19 : K.lookup g19 = some ⟨Oc19, Od19, .func (PySem.W.fnOf "_law_names" "_law_names" (defArgs K06.sNms) (defBody K06.sNms) (defScope K06.sNms) .none KV19 Dc19 Pm19 An19 Cd19 Ct19), Sl19⟩)
    (D19 : PySem.W.codeIn K Cd19 "_law_names" = true)
    (E19 : PySem.W.keepIn K (.ref g19) = true)
    (A20 : PySem.W.nsIn K mainGlobals "_law_rows" = some (some (.ref g20)))
    (L20 : K.lookup g20 = some ⟨Oc20, Od20, .func (PySem.W.fnOf "_law_rows" "_law_rows" (defArgs K06.sRows) (defBody K06.sRows) (defScope K06.sRows) .none KV20 Dc20 Pm20 An20 Cd20 Ct20), Sl20⟩)
    (D20 : PySem.W.codeIn K Cd20 "_law_rows" = true)
    (E20 : PySem.W.keepIn K (.ref g20) = true)
    (A21 : PySem.W.nsIn K mainGlobals "_law_made" = some (some (.ref g21)))
    (L21 : K.lookup g21 = some ⟨Oc21, Od21, .func (PySem.W.fnOf "_law_made" "_law_made" (defArgs K06.sMade) (defBody K06.sMade) (defScope K06.sMade) .none KV21 Dc21 Pm21 An21 Cd21 Ct21), Sl21⟩)
    (D21 : PySem.W.codeIn K Cd21 "_law_made" = true)
    (E21 : PySem.W.keepIn K (.ref g21) = true)
    (A22 : PySem.W.nsIn K mainGlobals "_law_text" = some (some (.ref g22)))
    (L22 : K.lookup g22 = some ⟨Oc22, Od22, .func (PySem.W.fnOf "_law_text" "_law_text" (defArgs Wd.sText) (defBody Wd.sText) (defScope Wd.sText) .none KV22 Dc22 Pm22 An22 Cd22 Ct22), Sl22⟩)
    (D22 : PySem.W.codeIn K Cd22 "_law_text" = true)
    (E22 : PySem.W.keepIn K (.ref g22) = true)
    (A23 : PySem.W.nsIn K mainGlobals "_law_is_name" = some (some (.ref g23)))
    (L23 : K.lookup g23 = some ⟨Oc23, Od23, .func (PySem.W.fnOf "_law_is_name" "_law_is_name" (defArgs Wd.sLName) (defBody Wd.sLName) (defScope Wd.sLName) .none KV23 Dc23 Pm23 An23 Cd23 Ct23), Sl23⟩)
    (D23 : PySem.W.codeIn K Cd23 "_law_is_name" = true)
    (E23 : PySem.W.keepIn K (.ref g23) = true)
    (A24 : PySem.W.nsIn K mainGlobals "_law_is_worth" = some (some (.ref g24)))
    (L24 : K.lookup g24 = some ⟨Oc24, Od24, .func (PySem.W.fnOf "_law_is_worth" "_law_is_worth" (defArgs Wd.sLWorth) (defBody Wd.sLWorth) (defScope Wd.sLWorth) .none KV24 Dc24 Pm24 An24 Cd24 Ct24), Sl24⟩)
    (D24 : PySem.W.codeIn K Cd24 "_law_is_worth" = true)
    (E24 : PySem.W.keepIn K (.ref g24) = true)
    (A25 : PySem.W.nsIn K mainGlobals "_law_row_goes" = some (some (.ref g25)))
    (L25 : K.lookup g25 = some ⟨Oc25, Od25, .func (PySem.W.fnOf "_law_row_goes" "_law_row_goes" (defArgs Wd.sGoes) (defBody Wd.sGoes) (defScope Wd.sGoes) .none KV25 Dc25 Pm25 An25 Cd25 Ct25), Sl25⟩)
    (D25 : PySem.W.codeIn K Cd25 "_law_row_goes" = true)
    (E25 : PySem.W.keepIn K (.ref g25) = true)
    (A26 : PySem.W.nsIn K mainGlobals "_law_due" = some (some (.ref g26)))
    (L26 : K.lookup g26 = some ⟨Oc26, Od26, .func (PySem.W.fnOf "_law_due" "_law_due" (defArgs Wd.sDue) (defBody Wd.sDue) (defScope Wd.sDue) .none KV26 Dc26 Pm26 An26 Cd26 Ct26), Sl26⟩)
    (D26 : PySem.W.codeIn K Cd26 "_law_due" = true)
    (E26 : PySem.W.keepIn K (.ref g26) = true)
    (A27 : PySem.W.nsIn K mainGlobals "_law_heard" = some (some (.ref g27)))
    (L27 : K.lookup g27 = some ⟨Oc27, Od27, .func (PySem.W.fnOf "_law_heard" "_law_heard" (defArgs Wd.sHeard) (defBody Wd.sHeard) (defScope Wd.sHeard) .none KV27 Dc27 Pm27 An27 Cd27 Ct27), Sl27⟩)
    (D27 : PySem.W.codeIn K Cd27 "_law_heard" = true)
    (E27 : PySem.W.keepIn K (.ref g27) = true)
    (A28 : PySem.W.nsIn K mainGlobals "_law_bent" = some (some (.ref g28)))
    (L28 : K.lookup g28 = some ⟨Oc28, Od28, .func (PySem.W.fnOf "_law_bent" "_law_bent" (defArgs Wd.sBent) (defBody Wd.sBent) (defScope Wd.sBent) .none KV28 Dc28 Pm28 An28 Cd28 Ct28), Sl28⟩)
    (D28 : PySem.W.codeIn K Cd28 "_law_bent" = true)
    (E28 : PySem.W.keepIn K (.ref g28) = true)
    (AP0 : PySem.W.nsIn K mainGlobals "_law_read_right" = some (some (.ref gP)))
    (LP : K.lookup gP = some ⟨OcP, OdP, .func (PySem.W.fnOf "_law_read_right" "_law_read_right" (defArgs Wd.sRight) (defBody Wd.sRight) (defScope Wd.sRight) .none KVP DcP PmP AnP (.ref cP) CtP), SlP⟩)
    (DP : PySem.W.codeIn K (.ref cP) "_law_read_right" = true)
    (EP : PySem.W.keepIn K (.ref gP) = true)
    (CP : K.lookup cP = some ⟨eP, ddP, .fields vsP, slP⟩)
    (VP : vsP[11]? = some (.ref PP))
    (WP : PySem.W.codeHdIn K cP PP = true)
    (NP : (K.lookup PP).isNone = true)
    (AL0 : PySem.W.nsIn K mainGlobals "law" = some (some (.ref gL)))
    (LL : K.lookup gL = some ⟨OcL, OdL, .func (PySem.W.fnOf "law" "law" (defArgs Wd.sLaw) (defBody Wd.sLaw) (defScope Wd.sLaw) .none KVL DcL PmL AnL (.ref cL) CtL), SlL⟩)
    (DL : PySem.W.codeIn K (.ref cL) "law" = true)
    (EL : PySem.W.keepIn K (.ref gL) = true)
    (CL : K.lookup cL = some ⟨eL, ddL, .fields vsL, slL⟩)
    (VL : vsL[11]? = some (.ref PL))
    (WL : PySem.W.codeHdIn K cL PL = true)
    (NL : (K.lookup PL).isNone = true)
    (NP2 : decide (PP = PL) = false)
    (ALN : PySem.W.nsIn K mainGlobals "LONGEST_NAME" = some (some (.int 8 tL)))
    (AMN : PySem.W.nsIn K mainGlobals "MOST_NAMES" = some (some (.int 6 t6)))
    (ACh : PySem.W.nsIn K mainGlobals "CHUNK" = some (some (.int 64 tK)))
    (ASt : PySem.W.nsIn K mainGlobals "STROKE" = some (some (.str "|" tB)))
    (ANN : PySem.W.nsIn K mainGlobals "NO_NAMES" = some (some (.ref aN)))
    (LN : K.lookup aN = some ⟨.type "tuple", dN, .seq #[Value.str "none" t1, Value.str "self" t2] nN, sN⟩)
    (xA_B : PySem.W.nsIn K mainGlobals "BadText" = some (some (.ref CB)))
    (xL_B : K.lookup CB = some (excClassObj nmE_B qE_B CB NE_B bsE_B bmE_B true snE_B subE_B abE_B colE_B ddE_B m0E_B m1E_B m2E_B m3E_B m5E_B "ValueError.__new__"))
    (hm_B : PySem.HandSPX.refsVE bmE_B = true)
    (xa_B : PySem.W.findIn K (.ref CB) "__init__" = some (some (.ref fE_B)))
    (xl_B : K.lookup fE_B = some ⟨ocE_B, odE_B, .func (PySem.W.fnOf "__init__" "BadText.__init__" (defArgs errB) (defBody errB) (defScope errB) .none kVE_B dcE_B pmE_B anE_B cdE_B ctE_B), slE_B⟩)
    (xc_B : PySem.W.codeIn K cdE_B "BadText.__init__" = true)
    (xk_B : PySem.W.keepIn K (.ref fE_B) = true)
    (xb_B : excB K CB fE_B "line" "word" = true)
    (xA_T : PySem.W.nsIn K mainGlobals "TooMany" = some (some (.ref CT)))
    (xL_T : K.lookup CT = some (excClassObj nmE_T qE_T CT NE_T bsE_T bmE_T true snE_T subE_T abE_T colE_T ddE_T m0E_T m1E_T m2E_T m3E_T m5E_T "ValueError.__new__"))
    (hm_T : PySem.HandSPX.refsVE bmE_T = true)
    (xa_T : PySem.W.findIn K (.ref CT) "__init__" = some (some (.ref fE_T)))
    (xl_T : K.lookup fE_T = some ⟨ocE_T, odE_T, .func (PySem.W.fnOf "__init__" "TooMany.__init__" (defArgs errT) (defBody errT) (defScope errT) .none kVE_T dcE_T pmE_T anE_T cdE_T ctE_T), slE_T⟩)
    (xc_T : PySem.W.codeIn K cdE_T "TooMany.__init__" = true)
    (xk_T : PySem.W.keepIn K (.ref fE_T) = true)
    (xb_T : excB K CT fE_T "what" "most" = true)
    (xx : exmB K CB CT = true)
    (AC : PySem.W.nsIn K mainGlobals "Table" = some (some (.ref C)))
    (ai : PySem.W.findIn K (.ref C) "__init__" = some (some (.ref fi)))
    (li : K.lookup fi = some ⟨oci, odi, .func (PySem.W.fnOf "__init__" "Table.__init__" (defArgs (Tb.tmeth 0)) (defBody (Tb.tmeth 0)) (defScope (Tb.tmeth 0)) (.ref TE) kVi dci pmi ani cdi cti), sli⟩)
    (ci : PySem.W.codeIn K cdi "Table.__init__" = true)
    (ki : PySem.W.keepIn K (.ref fi) = true)
    (ni : PySem.W.isFn K (.ref fi) = true)
    (TEl : K.lookup TE = some ⟨cTE, dTE, .seq #[Value.ref aE] nTE, sTE⟩)
    (El : K.lookup aE = some ⟨.type "tuple", dE, .seq #[] nE, sE⟩)
    (a0 : PySem.W.findIn K (.ref C) "__getitem__" = some (some (.ref f0)))
    (l0 : K.lookup f0 = some ⟨oc0, od0, .func (PySem.W.fnOf "__getitem__" "Table.__getitem__" (defArgs (Tb.tmeth 4)) (defBody (Tb.tmeth 4)) (defScope (Tb.tmeth 4)) .none kV0 dc0 pm0 an0 cd0 ct0), sl0⟩)
    (c0 : PySem.W.codeIn K cd0 "Table.__getitem__" = true)
    (k0 : PySem.W.keepIn K (.ref f0) = true)
    (n0 : PySem.W.isFn K (.ref f0) = true)
    (i0 : PySem.W.fnIn K f0 = true)
    (a1 : PySem.W.findIn K (.ref C) "__eq__" = some (some (.ref f1)))
    (l1 : K.lookup f1 = some ⟨oc1, od1, .func (PySem.W.fnOf "__eq__" "Table.__eq__" (defArgs (Tb.tmeth 19)) (defBody (Tb.tmeth 19)) (defScope (Tb.tmeth 19)) .none kV1 dc1 pm1 an1 cd1 ct1), sl1⟩)
    (c1 : PySem.W.codeIn K cd1 "Table.__eq__" = true)
    (k1 : PySem.W.keepIn K (.ref f1) = true)
    (n1 : PySem.W.isFn K (.ref f1) = true)
    (a2 : PySem.W.findIn K (.ref C) "__str__" = some (some (.ref f2)))
    (l2 : K.lookup f2 = some ⟨oc2, od2, .func (PySem.W.fnOf "__str__" "Table.__str__" (defArgs (Tb.tmeth 24)) (defBody (Tb.tmeth 24)) (defScope (Tb.tmeth 24)) .none kV2 dc2 pm2 an2 cd2 ct2), sl2⟩)
    (c2 : PySem.W.codeIn K cd2 "Table.__str__" = true)
    (k2 : PySem.W.keepIn K (.ref f2) = true)
    (n2 : PySem.W.isFn K (.ref f2) = true)
    (aR : PySem.W.findCls K (.ref C) (.type "type") "read" = some (.get (.builtin "classmethod.__get__") (.ref pR) .none (.ref C)))
    (rcR : PySem.W.recIn K pR "classmethod" = some (.ref fR :: rR))
    (lR : K.lookup fR = some ⟨ocR, odR, .func (PySem.W.fnOf "read" "Table.read" (defArgs Wd.sTRead) (defBody Wd.sTRead) (defScope Wd.sTRead) .none kVR dcR pmR anR cdR ctR), slR⟩)
    (cR_ : PySem.W.codeIn K cdR "Table.read" = true)
    (kR_ : PySem.W.keepIn K (.ref fR) = true)
    (iR_ : PySem.W.fnIn K fR = true)
    (q_rd : PySem.W.readsIn K C (.type "type") = true)
    (q_ga : PySem.W.specialIn K (.ref C) "__getattribute__" = some (some (.builtin "type.__getattribute__")))
    (q_pg : PySem.W.plainGet K C Str.empty = true)
    (q_hd : PySem.W.hasDictIn K C = true)
    (q_po : PySem.W.plainOver K C = true)
    (q_sa : PySem.W.findIn K (.ref C) "__setattr__" = some (some (.builtin "object.__setattr__")))
    (q_nS : PySem.W.findIn K (.ref C) "sources" = some none)
    (q_nU : PySem.W.findIn K (.ref C) "uses" = some none)
    (q_nW : PySem.W.findIn K (.ref C) "_worths" = some none)
    (q_nP : PySem.W.findIn K (.ref C) "pairs" = some none)
    (q_ha : PySem.W.findIn K (.ref C) "__class__" = some (some (.builtin "object.__class__")))
    (q_hn : PySem.W.specialIn K (.builtin "object.__class__") "__get__" = some (some (.builtin "getset_descriptor.__get__")))
    (q_htk : PySem.W.takesIn K (.builtin "object.__class__") = some true)
    (q_hm : PySem.W.mroIn K C (.type "object") = some true)
    (q_mk : PySem.W.makesIn K C = true)
    (q_kp : PySem.W.keepIn K (.ref C) = true)
    (q_ne : PySem.W.findIn K (.ref C) "__ne__" = some (some (.builtin "object.__ne__")))
    (q_ks : decide (PySem.W.kitOne K (.ref C) (.type "str") = some false) = true)
    (AW : PySem.W.nsIn K mainGlobals "Words" = some (some (.ref CW)))
    (wa0 : PySem.W.findIn K (.ref CW) "__init__" = some (some (.ref h0)))
    (wlk0 : K.lookup h0 = some ⟨wc0, wq0, .func (PySem.W.fnOf "__init__" "Words.__init__" (defArgs (Wd.wmeth 0)) (defBody (Wd.wmeth 0)) (defScope (Wd.wmeth 0)) .none wV0 wo0 wp0 wn0 wd0 wt0), wl0⟩)
    (wcd0 : PySem.W.codeIn K wd0 "Words.__init__" = true)
    (wk0 : PySem.W.keepIn K (.ref h0) = true)
    (wf0 : PySem.W.isFn K (.ref h0) = true)
    (wa1 : PySem.W.findIn K (.ref CW) "at_end" = some (some (.ref h1)))
    (wlk1 : K.lookup h1 = some ⟨wc1, wq1, .func (PySem.W.fnOf "at_end" "Words.at_end" (defArgs (Wd.wmeth 1)) (defBody (Wd.wmeth 1)) (defScope (Wd.wmeth 1)) .none wV1 wo1 wp1 wn1 wd1 wt1), wl1⟩)
    (wcd1 : PySem.W.codeIn K wd1 "Words.at_end" = true)
    (wk1 : PySem.W.keepIn K (.ref h1) = true)
    (wf1 : PySem.W.isFn K (.ref h1) = true)
    (wa2 : PySem.W.findIn K (.ref CW) "word_now" = some (some (.ref h2)))
    (wlk2 : K.lookup h2 = some ⟨wc2, wq2, .func (PySem.W.fnOf "word_now" "Words.word_now" (defArgs (Wd.wmeth 2)) (defBody (Wd.wmeth 2)) (defScope (Wd.wmeth 2)) .none wV2 wo2 wp2 wn2 wd2 wt2), wl2⟩)
    (wcd2 : PySem.W.codeIn K wd2 "Words.word_now" = true)
    (wk2 : PySem.W.keepIn K (.ref h2) = true)
    (wf2 : PySem.W.isFn K (.ref h2) = true)
    (wa3 : PySem.W.findIn K (.ref CW) "take_one" = some (some (.ref h3)))
    (wlk3 : K.lookup h3 = some ⟨wc3, wq3, .func (PySem.W.fnOf "take_one" "Words.take_one" (defArgs (Wd.wmeth 3)) (defBody (Wd.wmeth 3)) (defScope (Wd.wmeth 3)) .none wV3 wo3 wp3 wn3 wd3 wt3), wl3⟩)
    (wcd3 : PySem.W.codeIn K wd3 "Words.take_one" = true)
    (wk3 : PySem.W.keepIn K (.ref h3) = true)
    (wf3 : PySem.W.isFn K (.ref h3) = true)
    (wa4 : PySem.W.findIn K (.ref CW) "take_number" = some (some (.ref h4)))
    (wlk4 : K.lookup h4 = some ⟨wc4, wq4, .func (PySem.W.fnOf "take_number" "Words.take_number" (defArgs (Wd.wmeth 7)) (defBody (Wd.wmeth 7)) (defScope (Wd.wmeth 7)) .none wV4 wo4 wp4 wn4 wd4 wt4), wl4⟩)
    (wcd4 : PySem.W.codeIn K wd4 "Words.take_number" = true)
    (wk4 : PySem.W.keepIn K (.ref h4) = true)
    (wf4 : PySem.W.isFn K (.ref h4) = true)
    (wa5 : PySem.W.findIn K (.ref CW) "take_end" = some (some (.ref h5)))
    (wlk5 : K.lookup h5 = some ⟨wc5, wq5, .func (PySem.W.fnOf "take_end" "Words.take_end" (defArgs (Wd.wmeth 9)) (defBody (Wd.wmeth 9)) (defScope (Wd.wmeth 9)) .none wV5 wo5 wp5 wn5 wd5 wt5), wl5⟩)
    (wcd5 : PySem.W.codeIn K wd5 "Words.take_end" = true)
    (wk5 : PySem.W.keepIn K (.ref h5) = true)
    (wf5 : PySem.W.isFn K (.ref h5) = true)
    (w_pg : PySem.W.plainGet K CW Str.empty = true)
    (w_hd : PySem.W.hasDictIn K CW = true)
    (w_po : PySem.W.plainOver K CW = true)
    (w_sa : PySem.W.findIn K (.ref CW) "__setattr__" = some (some (.builtin "object.__setattr__")))
    (w_nW : PySem.W.findIn K (.ref CW) "words" = some none)
    (w_nA : PySem.W.findIn K (.ref CW) "at" = some none)
    (w_mk : PySem.W.makesIn K CW = true)
    (w_kp : PySem.W.keepIn K (.ref CW) = true)
    (fa_I : PySem.W.nsIn K mainGlobals "is_integer" = some (some (.ref gd_I)))
    (fl_I : K.lookup gd_I = some ⟨oc_I, od_I, .func (PySem.W.fnOf "is_integer" "is_integer" (defArgs Fk.sInteger) (defBody Fk.sInteger) (defScope Fk.sInteger) (.ref T_I) kv_I dc_I pm_I an_I cd_I ct_I), sl_I⟩)
    (fc_I : PySem.W.codeIn K cd_I "is_integer" = true)
    (fk_I : PySem.W.keepIn K (.ref gd_I) = true)
    (ft_I : K.lookup T_I = some ⟨cT_I, dT_I, .seq #[Value.none] nT_I, sT_I⟩)
    (fa_N : PySem.W.findIn K (.ref CW) "take_name" = some (some (.ref gd_N)))
    (ff_N : PySem.W.isFn K (.ref gd_N) = true)
    (fl_N : K.lookup gd_N = some ⟨oc_N, od_N, .func (PySem.W.fnOf "take_name" "Words.take_name" (defArgs (Wd.wmeth 5)) (defBody (Wd.wmeth 5)) (defScope (Wd.wmeth 5)) (.ref T_N) kv_N dc_N pm_N an_N cd_N ct_N), sl_N⟩)
    (fc_N : PySem.W.codeIn K cd_N "Words.take_name" = true)
    (fk_N : PySem.W.keepIn K (.ref gd_N) = true)
    (ft_N : K.lookup T_N = some ⟨cT_N, dT_N, .seq #[Value.str "" ts_N, Value.str "" tu_N] nT_N, sT_N⟩)
    (z_isinstance : PySem.W.nsIn K mainGlobals "isinstance" = some none)
    (z_int : PySem.W.nsIn K mainGlobals "int" = some none)
    (z_bool : PySem.W.nsIn K mainGlobals "bool" = some none)
    (z_str : PySem.W.nsIn K mainGlobals "str" = some none)
    (z_len : PySem.W.nsIn K mainGlobals "len" = some none)
    (z_sorted : PySem.W.nsIn K mainGlobals "sorted" = some none)
    (z_tuple : PySem.W.nsIn K mainGlobals "tuple" = some none)
    (z_sum : PySem.W.nsIn K mainGlobals "sum" = some none)
    (z_list : PySem.W.nsIn K mainGlobals "list" = some none)
    (z_dict : PySem.W.nsIn K mainGlobals "dict" = some none)
    (z_range : PySem.W.nsIn K mainGlobals "range" = some none)
    (z_abs : PySem.W.nsIn K mainGlobals "abs" = some none)
    (z_all : PySem.W.nsIn K mainGlobals "all" = some none)
    (z_repr : PySem.W.nsIn K mainGlobals "repr" = some none) : AtG l w K 11 63 "script" mg fa h := by
  subst hl
  have e := hfa.symm.trans (PySem.W.mg_of X G AL0)
  cases e
  have F0 := fun_mk (st := Fk.sAmount) L0 D0 E0
  have b0 := F0.binds (ps := ["value"]) fun _ _ _ _ _ _ us hl => match us, hl with | [_], _ => rfl
  have F1 := fun_mk (st := Fk.sName) L1 D1 E1
  have b1 := F1.binds (ps := ["value"]) fun _ _ _ _ _ _ us hl => match us, hl with | [_], _ => rfl
  have F2 := fun_mk (st := Fk.sNames) L2 D2 E2
  have b2 := F2.binds (ps := ["values"]) fun _ _ _ _ _ _ us hl => match us, hl with | [_], _ => rfl
  have F3 := fun_mk (st := Fk.sNum) L3 D3 E3
  have b3 := F3.binds (ps := ["number"]) fun _ _ _ _ _ _ us hl => match us, hl with | [_], _ => rfl
  have F4 := fun_mk (st := Fk.sAmounts) L4 D4 E4
  have b4 := F4.binds (ps := ["values"]) fun _ _ _ _ _ _ us hl => match us, hl with | [_], _ => rfl
  have F5 := fun_mk (st := Fk.sPair) L5 D5 E5
  have b5 := F5.binds (ps := ["value"]) fun _ _ _ _ _ _ us hl => match us, hl with | [_], _ => rfl
  have F6 := fun_mk (st := Fk.sRow) L6 D6 E6
  have b6 := F6.binds (ps := ["value"]) fun _ _ _ _ _ _ us hl => match us, hl with | [_], _ => rfl
  have F7 := fun_mk (st := Tb.sAsc) L7 D7 E7
  have b7 := F7.binds (ps := ["values"]) fun _ _ _ _ _ _ us hl => match us, hl with | [_], _ => rfl
  have F8 := fun_mk (st := Tb.sUnlike) L8 D8 E8
  have b8 := F8.binds (ps := ["names"]) fun _ _ _ _ _ _ us hl => match us, hl with | [_], _ => rfl
  have F9 := fun_mk (st := Tb.sJoined) L9 D9 E9
  have b9 := F9.binds (ps := ["one", "other"]) fun _ _ _ _ _ _ us hl => match us, hl with | [_, _], _ => rfl
  have F10 := fun_mk (st := Tb.sCheck) L10 D10 E10
  have b10 := F10.binds (ps := ["rows", "uses"]) fun _ _ _ _ _ _ us hl => match us, hl with | [_, _], _ => rfl
  have F11 := fun_mk (st := Tb.sRowT) L11 D11 E11
  have b11 := F11.binds (ps := ["table", "source"]) fun _ _ _ _ _ _ us hl => match us, hl with | [_, _], _ => rfl
  have F12 := fun_mk (st := Wd.sNumOf) L12 D12 E12
  have b12 := F12.binds (ps := ["word"]) fun _ _ _ _ _ _ us hl => match us, hl with | [_], _ => rfl
  have F13 := fun_mk (st := Wd.sIsNum) L13 D13 E13
  have b13 := F13.binds (ps := ["word"]) fun _ _ _ _ _ _ us hl => match us, hl with | [_], _ => rfl
  have F14 := fun_mk (st := (Fk.top 35)) L14 D14 E14
  have b14 := F14.binds (ps := ["words"]) fun _ _ _ _ _ _ us hl => match us, hl with | [_], _ => rfl
  have F15 := fun_mk (st := K06.sPen) L15 D15 E15
  have b15 := F15.binds (ps := ["script"]) fun _ _ _ _ _ _ us hl => match us, hl with | [_], _ => rfl
  have F16 := fun_mk (st := K06.sDraw) L16 D16 E16
  have b16 := F16.binds (ps := ["pen", "many"]) fun _ _ _ _ _ _ us hl => match us, hl with | [_, _], _ => rfl
  have F17 := fun_mk (st := K06.sPick) L17 D17 E17
  have b17 := F17.binds (ps := ["pen", "some"]) fun _ _ _ _ _ _ us hl => match us, hl with | [_, _], _ => rfl
  have F18 := fun_mk (st := K06.sPlain) L18 D18 E18
  have b18 := F18.binds (ps := ["pen", "most"]) fun _ _ _ _ _ _ us hl => match us, hl with | [_, _], _ => rfl
  have F19 := fun_mk (st := K06.sNms) L19 D19 E19
  have b19 := F19.binds (ps := ["names_so"]) fun _ _ _ _ _ _ us hl => match us, hl with | [_], _ => rfl
  have F20 := fun_mk (st := K06.sRows) L20 D20 E20
  have b20 := F20.binds (ps := ["pen", "plain"]) fun _ _ _ _ _ _ us hl => match us, hl with | [_, _], _ => rfl
  have F21 := fun_mk (st := K06.sMade) L21 D21 E21
  have b21 := F21.binds (ps := ["pen", "plain"]) fun _ _ _ _ _ _ us hl => match us, hl with | [_, _], _ => rfl
  have F22 := fun_mk (st := Wd.sText) L22 D22 E22
  have b22 := F22.binds (ps := ["plain"]) fun _ _ _ _ _ _ us hl => match us, hl with | [_], _ => rfl
  have F23 := fun_mk (st := Wd.sLName) L23 D23 E23
  have b23 := F23.binds (ps := ["word"]) fun _ _ _ _ _ _ us hl => match us, hl with | [_], _ => rfl
  have F24 := fun_mk (st := Wd.sLWorth) L24 D24 E24
  have b24 := F24.binds (ps := ["word"]) fun _ _ _ _ _ _ us hl => match us, hl with | [_], _ => rfl
  have F25 := fun_mk (st := Wd.sGoes) L25 D25 E25
  have b25 := F25.binds (ps := ["words", "at", "many", "last"]) fun _ _ _ _ _ _ us hl => match us, hl with | [_, _, _, _], _ => rfl
  have F26 := fun_mk (st := Wd.sDue) L26 D26 E26
  have b26 := F26.binds (ps := ["line"]) fun _ _ _ _ _ _ us hl => match us, hl with | [_], _ => rfl
  have F27 := fun_mk (st := Wd.sHeard) L27 D27 E27
  have b27 := F27.binds (ps := ["ask"]) fun _ _ _ _ _ _ us hl => match us, hl with | [_], _ => rfl
  have F28 := fun_mk (st := Wd.sBent) L28 D28 E28
  have b28 := F28.binds (ps := ["pen", "words"]) fun _ _ _ _ _ _ us hl => match us, hl with | [_, _], _ => rfl
  have M0 := fun_mk (st := Tb.tmeth 4) l0 c0 k0
  have d0 := M0.binds (ps := ["self", "at"]) fun _ _ _ _ _ _ us hl => match us, hl with | [_, _], _ => rfl
  have M1 := fun_mk (st := Tb.tmeth 19) l1 c1 k1
  have d1 := M1.binds (ps := ["self", "other"]) fun _ _ _ _ _ _ us hl => match us, hl with | [_, _], _ => rfl
  have M2 := fun_mk (st := Tb.tmeth 24) l2 c2 k2
  have d2 := M2.binds (ps := ["self"]) fun _ _ _ _ _ _ us hl => match us, hl with | [_], _ => rfl
  have MR_ := fun_mk (st := Wd.sTRead) lR cR_ kR_
  have dR_ := MR_.binds (ps := ["cls", "text"]) fun _ _ _ _ _ _ us hl => match us, hl with | [_, _], _ => rfl
  have W0 := fun_mk (st := Wd.wmeth 0) wlk0 wcd0 wk0
  have wb0 := W0.binds (ps := ["self", "text"]) fun _ _ _ _ _ _ us hl => match us, hl with | [_, _], _ => rfl
  have W1 := fun_mk (st := Wd.wmeth 1) wlk1 wcd1 wk1
  have wb1 := W1.binds (ps := ["self"]) fun _ _ _ _ _ _ us hl => match us, hl with | [_], _ => rfl
  have W2 := fun_mk (st := Wd.wmeth 2) wlk2 wcd2 wk2
  have wb2 := W2.binds (ps := ["self"]) fun _ _ _ _ _ _ us hl => match us, hl with | [_], _ => rfl
  have W3 := fun_mk (st := Wd.wmeth 3) wlk3 wcd3 wk3
  have wb3 := W3.binds (ps := ["self", "choices"]) fun _ _ _ _ _ _ us hl => match us, hl with | [_, _], _ => rfl
  have W4 := fun_mk (st := Wd.wmeth 7) wlk4 wcd4 wk4
  have wb4 := W4.binds (ps := ["self", "least"]) fun _ _ _ _ _ _ us hl => match us, hl with | [_, _], _ => rfl
  have W5 := fun_mk (st := Wd.wmeth 9) wlk5 wcd5 wk5
  have wb5 := W5.binds (ps := ["self"]) fun _ _ _ _ _ _ us hl => match us, hl with | [_], _ => rfl
  have FD_I : FunD K "is_integer" "is_integer" (defArgs Fk.sInteger) (defBody Fk.sInteger) (defScope Fk.sInteger) [.non] [] gd_I (PySem.W.fnOf "is_integer" "is_integer" (defArgs Fk.sInteger) (defBody Fk.sInteger) (defScope Fk.sInteger) (.ref T_I) kv_I dc_I pm_I an_I cd_I ct_I) := ⟨⟨oc_I, od_I, .ref T_I, kv_I, dc_I, pm_I, an_I, cd_I, ct_I, sl_I, rfl, fl_I, fc_I, .inr ⟨by simp, T_I, _, [Value.none], nT_I, rfl, ft_I, rfl, .cons rfl .nil⟩, .inl rfl⟩, fk_I⟩
  have bd_I : Binds K (PySem.W.fnOf "is_integer" "is_integer" (defArgs Fk.sInteger) (defBody Fk.sInteger) (defScope Fk.sInteger) (.ref T_I) kv_I dc_I pm_I an_I cd_I ct_I) ["value", "least"] [] := by
    obtain ⟨ds, rd, bd⟩ := FD_I.binds1 (ps := ["value", "least"]) 2 1 (by simp) rfl fun T kV doc pm an cdv ct us its hu hi => match us, its, hu, hi with | [_, _], [_], _, _ => ⟨_, rfl, rfl⟩
    cases rd
    exact bd
  have FD_N : FunD K "take_name" "Words.take_name" (defArgs (Wd.wmeth 5)) (defBody (Wd.wmeth 5)) (defScope (Wd.wmeth 5)) [.str "", .str ""] [] gd_N (PySem.W.fnOf "take_name" "Words.take_name" (defArgs (Wd.wmeth 5)) (defBody (Wd.wmeth 5)) (defScope (Wd.wmeth 5)) (.ref T_N) kv_N dc_N pm_N an_N cd_N ct_N) := ⟨⟨oc_N, od_N, .ref T_N, kv_N, dc_N, pm_N, an_N, cd_N, ct_N, sl_N, rfl, fl_N, fc_N, .inr ⟨by simp, T_N, _, [Value.str "" ts_N, Value.str "" tu_N], nT_N, rfl, ft_N, rfl, .cons ⟨ts_N, rfl⟩ (.cons ⟨tu_N, rfl⟩ .nil)⟩, .inl rfl⟩, fk_N⟩
  have bd_N : Binds K (PySem.W.fnOf "take_name" "Words.take_name" (defArgs (Wd.wmeth 5)) (defBody (Wd.wmeth 5)) (defScope (Wd.wmeth 5)) (.ref T_N) kv_N dc_N pm_N an_N cd_N ct_N) ["self", "least", "behind"] [] := by
    obtain ⟨ds, rd, bd⟩ := FD_N.binds1 (ps := ["self", "least", "behind"]) 3 2 (by simp) rfl fun T kV doc pm an cdv ct us its hu hi => match us, its, hu, hi with | [_, _, _], [_, _], _, _ => ⟨_, rfl, rfl⟩
    cases rd
    exact bd
  have m : ∀ {x : Str} {v : Value}, PySem.W.nsIn K mainGlobals x = some (some v) → mg x = some v := fun h => PySem.W.mg_of X G h
  have z : ∀ {x : Str}, PySem.W.nsIn K mainGlobals x = some none → mg x = none := fun h => PySem.W.mg_none_of X G h
  have FT : FunD K "__init__" "Table.__init__" (defArgs Tb.sTI) (defBody Tb.sTI) (defScope Tb.sTI) [.ref aE] [] fi (PySem.W.fnOf "__init__" "Table.__init__" (defArgs Tb.sTI) (defBody Tb.sTI) (defScope Tb.sTI) (.ref TE) kVi dci pmi ani cdi cti) := ⟨⟨oci, odi, .ref TE, kVi, dci, pmi, ani, cdi, cti, sli, rfl, li, ci, .inr ⟨by simp, TE, _, [Value.ref aE], nTE, rfl, TEl, rfl, .cons rfl .nil⟩, .inl rfl⟩, ki⟩
  have bT : Binds K (PySem.W.fnOf "__init__" "Table.__init__" (defArgs Tb.sTI) (defBody Tb.sTI) (defScope Tb.sTI) (.ref TE) kVi dci pmi ani cdi cti) ["self", "rows", "uses"] [] := by
    obtain ⟨ds, rd, bd⟩ := FT.binds1 (ps := ["self", "rows", "uses"]) 3 1 (by simp) rfl fun T kV doc pm an cdv ct us its hu hi => match us, its, hu, hi with | [_, _, _], [_], _, _ => ⟨_, rfl, rfl⟩
    cases rd
    exact bd
  have B : Fk.Blt mg := ⟨z z_isinstance, z z_int, z z_bool, z z_str, z z_len⟩
  have T2 : Fk.Blt2 mg := ⟨z z_sorted, z z_tuple, z z_sum⟩
  have T3 : K06.Blt mg := ⟨z z_int, z z_len, z z_abs, z z_list⟩
  have R : Fk.BltR mg := ⟨z z_list, z z_tuple⟩
  have gT := m AC
  have hN : ∀ H, SqT K H aN [.str "none", .str "self"] := fun H => .inr ⟨_, _, _, LN, rfl, rfl, by show 2 ≤ sizeLine; decide, .cons ⟨t1, rfl⟩ (.cons ⟨t2, rfl⟩ .nil)⟩
  have S : Tb.TblC K C := ⟨⟨q_pg, q_hd, q_po, q_sa⟩, q_nS, q_nU, q_nW, q_nP⟩
  have SI : Tb.TblI K C := ⟨q_ha, q_hn, q_htk, q_hm⟩
  have SW : WdC K CW := ⟨⟨w_pg, w_hd, w_po, w_sa⟩, w_nW, w_nA⟩
  -- the errors' classes
  obtain ⟨u1_B, xb_B⟩ := and2 xb_B
  obtain ⟨u2_B, xb_B⟩ := and2 xb_B
  obtain ⟨u3_B, xb_B⟩ := and2 xb_B
  obtain ⟨u4_B, xb_B⟩ := and2 xb_B
  obtain ⟨u5_B, xb_B⟩ := and2 xb_B
  obtain ⟨u6_B, xb_B⟩ := and2 xb_B
  obtain ⟨u7_B, xb_B⟩ := and2 xb_B
  obtain ⟨u8_B, xb_B⟩ := and2 xb_B
  obtain ⟨u9_B, u10_B⟩ := and2 xb_B
  have ME_B := fun_mk (st := errB) xl_B xc_B xk_B
  have dE_B := ME_B.binds (ps := ["self", "line", "word"]) fun _ _ _ _ _ _ us hl => match us, hl with | [_, _, _], _ => rfl
  have oex_B : OexC K CB := ⟨⟨nmE_B, qE_B, NE_B, bsE_B, bmE_B, snE_B, subE_B, abE_B, colE_B, ddE_B, m0E_B, m1E_B, m2E_B, m3E_B, m5E_B, xL_B, hm_B⟩, of_decide_eq_true u7_B, of_decide_eq_true u3_B, of_decide_eq_true u5_B, u6_B⟩
  have xfc_B : XfC K CB := ⟨of_decide_eq_true u1_B, of_decide_eq_true u2_B, of_decide_eq_true u3_B, u4_B⟩
  obtain ⟨u1_T, xb_T⟩ := and2 xb_T
  obtain ⟨u2_T, xb_T⟩ := and2 xb_T
  obtain ⟨u3_T, xb_T⟩ := and2 xb_T
  obtain ⟨u4_T, xb_T⟩ := and2 xb_T
  obtain ⟨u5_T, xb_T⟩ := and2 xb_T
  obtain ⟨u6_T, xb_T⟩ := and2 xb_T
  obtain ⟨u7_T, xb_T⟩ := and2 xb_T
  obtain ⟨u8_T, xb_T⟩ := and2 xb_T
  obtain ⟨u9_T, u10_T⟩ := and2 xb_T
  have ME_T := fun_mk (st := errT) xl_T xc_T xk_T
  have dE_T := ME_T.binds (ps := ["self", "what", "most"]) fun _ _ _ _ _ _ us hl => match us, hl with | [_, _, _], _ => rfl
  have oex_T : OexC K CT := ⟨⟨nmE_T, qE_T, NE_T, bsE_T, bmE_T, snE_T, subE_T, abE_T, colE_T, ddE_T, m0E_T, m1E_T, m2E_T, m3E_T, m5E_T, xL_T, hm_T⟩, of_decide_eq_true u7_T, of_decide_eq_true u3_T, of_decide_eq_true u5_T, u6_T⟩
  have xfc_T : XfC K CT := ⟨of_decide_eq_true u1_T, of_decide_eq_true u2_T, of_decide_eq_true u3_T, u4_T⟩
  obtain ⟨y1, xx⟩ := and2 xx
  obtain ⟨y2, y3⟩ := and2 xx
  have HX : HeardX K mg CB CT := ⟨m xA_B, m xA_T, of_decide_eq_true y1, of_decide_eq_true y2, of_decide_eq_true y3, xfc_B, xfc_T, of_decide_eq_true u9_B, of_decide_eq_true u10_B, of_decide_eq_true u9_T, of_decide_eq_true u10_T⟩
  -- the tables
  have nPL : PP ≠ PL := of_decide_eq_false NP2
  have tabP := own "_law_read_right" (by simp) gP (m AP0) cP PP _ _ _ _ _ _ LP rfl rfl CP VP
  have tabL := own "law" (by simp) fa (m AL0) cL PL _ _ _ _ _ _ LL rfl rfl CL VL
  refine ⟨PySem.W.fnOf "law" "law" (defArgs Wd.sLaw) (defBody Wd.sLaw) (defScope Wd.sLaw) .none KVL DcL PmL AnL (.ref cL) CtL, [(cP, PP), (cL, PL)], spLaw K [(PP, nmR), (PL, nmL)], fun p hp => ?_, fun p hp => ?_, fun p hp => ?_, fun s v => .of_eq rfl, fun H a ns ln hH hS => ?_, fun base _ _ TB => ?_⟩
  · simp only [List.mem_cons, List.not_mem_nil, or_false] at hp
    rcases hp with rfl | rfl
    · exact tabP
    · exact tabL
  · simp only [List.mem_cons, List.not_mem_nil, or_false] at hp
    rcases hp with rfl | rfl
    · exact Option.isNone_iff_eq_none.mp NP
    · exact Option.isNone_iff_eq_none.mp NL
  · simp only [List.mem_cons, List.not_mem_nil, or_false] at hp
    rcases hp with rfl | rfl
    · exact PySem.W.codeHd_of_K X WP
    · exact PySem.W.codeHd_of_K X WL
  · refine ⟨a, ns, rfl, hS, ln, fun p hp => ?_, fun _ => rfl⟩
    simp only [List.mem_cons, List.not_mem_nil, or_false] at hp
    rcases hp with rfl | rfl
    · exact TabS.nil (hH (cP, PP) (by simp))
    · exact TabS.nil (hH (cL, PL) (by simp))
  have LB : BadC l.prog w K mg base CB fE_B _ := ⟨oex_B, xa_B, of_decide_eq_true u8_B, of_decide_eq_true u9_B, of_decide_eq_true u10_B, ok_init2 ME_B rfl scErrB (fun _ => rfl) (fun _ => rfl) rfl rfl rfl rfl, dE_B, m xA_B⟩
  have LM : Tb.ManyC l.prog w K mg base CT fE_T _ := ⟨oex_T, xa_T, of_decide_eq_true u8_T, of_decide_eq_true u9_T, of_decide_eq_true u10_T, ok_init2 ME_T rfl scErrT (fun _ => rfl) (fun _ => rfl) rfl rfl rfl rfl, dE_T, m xA_T⟩
  have okI := Fk.ok_integer (P := l.prog) (w := w) (base := base) (mg := mg) FD_I B
  have okA := Fk.ok_amount (P := l.prog) (w := w) (base := base) F0 okI bd_I (m fa_I) fk_I
  have okN := Fk.ok_name (tN := 0) (P := l.prog) (w := w) (base := base) F1 B (m ALN) (m ANN) hN
  have okNs := Fk.ok_names (P := l.prog) (w := w) (base := base) F2 okN b1 (m A1) E1
  have okNum := Fk.ok_num (P := l.prog) (w := w) (base := base) F3 B
  have okW := Fk.ok_amounts (P := l.prog) (w := w) (base := base) F4 okA b0 (m A0) E0
  have okP := Tb.ok_pair (P := l.prog) (w := w) (base := base) F5 B R okN b1 (m A1) E1
  have okR := Tb.ok_row (P := l.prog) (w := w) (base := base) F6 B R
  have okAsc := Tb.ok_asc (P := l.prog) (w := w) (base := base) F7 B T2
  have okUn := Tb.ok_unlike (P := l.prog) (w := w) (base := base) F8 B R okAsc b7 (m A7) E7
  have okJ := Tb.ok_joined (P := l.prog) (w := w) (base := base) F9 okUn b8 (m A8) E8
  have okC := Tb.ok_check (P := l.prog) (w := w) (base := base) F10 B R (z z_dict) (z z_all) okR b6 (m A6) E6 okNs b2 (m A2) E2 okW b4 (m A4) E4
  have oIniX := Tb.ok_tinitX (P := l.prog) (w := w) (base := base) FT S LM B R (m AMN) okC b10 (m A10) E10 okAsc b7 (m A7) E7 okJ b9 (m A9) E9
  have oIni : XG.FnG l.prog w K mg base CX0 5 fi _ ["self", "rows", "uses"] (Tb.spTI K C) := XG.FnG.calm oIniX Tb.spTI_X
  have mk : Mk K C fi := ⟨q_mk, ai, ni, q_kp⟩
  have oItem := Tb.ok_titem (P := l.prog) (w := w) (base := base) M0 S okP b5 (m A5) E5
  have mItem : Own.Mt l.prog w K mg base C "__getitem__" 3 ["self", "at"] (Tb.spTItem C) f0 _ := ⟨a0, n0, oItem, d0⟩
  have oEq := Tb.ok_teq (P := l.prog) (w := w) (base := base) M1 S SI B gT
  have oRow := Tb.ok_rowT (P := l.prog) (w := w) (base := base) F11 S mItem i0 okNum b3 (m A3) E3
  have oStr := Tb.ok_tstr (P := l.prog) (w := w) (base := base) M2 S oRow b11 (m A11) E11
  -- Words
  have okNo := ok_numOf (P := l.prog) (w := w) (base := base) F12 B (z z_range) (m ACh)
  have okIn := ok_isNum (P := l.prog) (w := w) (base := base) (mg := mg) F13
  have e1 : Meth K CW "at_end" h1 := ⟨wa1, wf1, wk1⟩
  have e2 : Meth K CW "word_now" h2 := ⟨wa2, wf2, wk2⟩
  have e3 : Meth K CW "take_one" h3 := ⟨wa3, wf3, wk3⟩
  have e4 : Meth K CW "take_number" h4 := ⟨wa4, wf4, wk4⟩
  have e5 : Meth K CW "take_end" h5 := ⟨wa5, wf5, wk5⟩
  have eN : Meth K CW "take_name" gd_N := ⟨fa_N, ff_N, fk_N⟩
  have wEnd := ok_atEnd (P := l.prog) (w := w) (base := base) W1 SW B
  have wNow := ok_now (P := l.prog) (w := w) (base := base) (mg := mg) W2 SW e1 wEnd wb1
  have wOne := ok_tone (P := l.prog) (w := w) (base := base) W3 SW LB e2 wNow wb2
  have wName := ok_tname (P := l.prog) (w := w) (base := base) FD_N SW LB e2 wNow wb2 okN b1 (m A1) E1
  have wNum := ok_tnum (P := l.prog) (w := w) (base := base) W4 SW LB e2 wNow wb2 okIn b13 (m A13) E13 okNo b12 (m A12) E12
  have wEnd2 := ok_tend (P := l.prog) (w := w) (base := base) W5 SW LB e1 wEnd wb1
  have wInit := ok_winit (P := l.prog) (w := w) (base := base) W0 SW B LB
  have mkW : Mk K CW h0 := ⟨w_mk, wa0, wf0, w_kp⟩
  have oTake := ok_take (P := l.prog) (w := w) (base := base) F14 SW B (m ASt) e2 wNow wb2 e3 wOne wb3 eN wName bd_N e4 wNum wb4
  -- Table.read
  have r : ClX.CRead K C (.type "type") := ⟨q_rd, q_ga⟩
  have cr : ClX.CMet K C (.type "type") "read" pR fR := ⟨aR, ⟨rR, rcR⟩, iR_⟩
  have oRead := ok_tread (P := l.prog) (w := w) (base := base) MR_ SW mkW wInit wb0 (m AW) oTake b14 (m A14) E14 e5 wEnd2 wb5 mk oIniX bT
  have kR : KBinds K (PySem.W.fnOf "read" "Table.read" (defArgs Wd.sTRead) (defBody Wd.sTRead) (defScope Wd.sTRead) .none kVR dcR pmR anR cdR ctR) ["cls", "text"] ["text"] kwA kwA := ⟨fun s us ws X' hl => match us, ws, hl with | [_], [_], _ => .of_eq rfl, fun {vs us zs ws} r1 r2 => by
    cases r1 with
    | nil => exact .nil
    | cons x1 x2 =>
      cases x2 with
      | cons _ _ => cases r2 <;> exact .nil
      | nil =>
        cases r2 with
        | nil => exact .nil
        | cons y1 y2 =>
          cases y2 with
          | cons _ _ => exact .nil
          | nil => exact .cons x1 (.cons y1 .nil)⟩
  let MR : TblR l.prog w K mg base C CB CT := { S := S, SI := SI, gT := gT, fS := f2, dS := _, str := ⟨a2, n2, oStr, d2⟩, fQ := f1, dQ := _, eq := ⟨a1, n1, oEq, d1⟩, ne := q_ne, mro := q_hm, mc := .type "type", r := r, pR := pR, fR := fR, dR := _, cR := cr, read := oRead, bR := dR_, kR := kR }
  have HD : HeardD K mg CB CT := { X := HX, g := g27, fd := _, F := F27, b := b27, gH := m A27, kH := E27 }
  -- the law's own
  have dDraw := K06.ok_draw (P := l.prog) (w := w) (base := base) F16 T3
  have dPick := K06.ok_pick (P := l.prog) (w := w) (base := base) F17 T3 dDraw b16 (m A16) E16
  have dPlain := K06.ok_plain (P := l.prog) (w := w) (base := base) F18 dPick b17 (m A17) E17 dDraw b16 (m A16) E16
  have dNms := K06.ok_nms (P := l.prog) (w := w) (base := base) F19 B T2
  have dRows := K06.ok_rows (P := l.prog) (w := w) (base := base) F20 T3 dDraw b16 (m A16) E16
  have dMade := K06.ok_made (P := l.prog) (w := w) (base := base) F21 dRows b20 (m A20) E20 mk oIni bT gT
  have dText := ok_text (P := l.prog) (w := w) (base := base) F22 B ⟨_, _, dNms, b19, m A19, E19⟩
  have dName := ok_lname (P := l.prog) (w := w) (base := base) F23 B
  have dWorth := ok_lworth (P := l.prog) (w := w) (base := base) (mg := mg) F24
  have dGoes := ok_goes (P := l.prog) (w := w) (base := base) F25 B (z z_range) dName b23 (m A23) E23 dWorth b24 (m A24) E24
  have dDue := ok_ldue (P := l.prog) (w := w) (base := base) F26 B dName b23 (m A23) E23 dGoes b25 (m A25) E25
  have dBent := ok_bent (P := l.prog) (w := w) (base := base) F28 B dDraw b16 (m A16) E16 dPick b17 (m A17) E17
  have FP : K06.FunC K "_law_read_right" "_law_read_right" Wd.sRight gP cP _ := ⟨⟨_, _, _, _, _, _, _, _, rfl, LP, DP⟩, EP⟩
  have bP : Binds K _ ["line"] [] := (fun_mk (st := Wd.sRight) LP DP EP).binds (ps := ["line"]) fun _ _ _ _ _ _ us hl => match us, hl with | [_], _ => rfl
  have FL : K06.FunC K "law" "law" Wd.sLaw fa cL _ := ⟨⟨_, _, _, _, _, _, _, _, rfl, LL, DL⟩, EL⟩
  have uP : ∀ p ∈ ([(PP, nmR), (PL, nmL)] : List (Addr × Str)), p.1 = PP → p.2 = nmR := fun p hp e => by
    simp only [List.mem_cons, List.not_mem_nil, or_false] at hp
    rcases hp with rfl | rfl
    · rfl
    · exact absurd e.symm nPL
  have uL : ∀ p ∈ ([(PP, nmR), (PL, nmL)] : List (Addr × Str)), p.1 = PL → p.2 = nmL := fun p hp e => by
    simp only [List.mem_cons, List.not_mem_nil, or_false] at hp
    rcases hp with rfl | rfl
    · exact absurd e nPL
    · rfl
  have dRight := ok_right (P := l.prog) (w := w) (base := base) (T := [(PP, nmR), (PL, nmL)]) FP MR B (z z_repr) (z z_list) HD ⟨_, _, dDue, b26, m A26, E26⟩ (TB (cP, PP) (by simp)) (by simp) uP
  exact ok_law FL MR (of_decide_eq_true q_ks) (z z_range) B HD ⟨_, _, K06.ok_pen (P := l.prog) (w := w) (base := base) F15 T3, b15, m A15, E15⟩ ⟨_, _, dPlain, b18, m A18, E18⟩ ⟨_, _, dMade, K06.spMade_len, b21, m A21, E21⟩ ⟨_, _, dText, b22, m A22, E22⟩ ⟨_, _, dPick, b17, m A17, E17⟩ ⟨_, _, dBent, b28, m A28, E28⟩ dRight bP (m AP0) EP (TB (cL, PL) (by simp)) (by simp) uL
end Wd

set_option Elab.async false
set_option linter.all false
open PySem PySem.W PyProof.Rows
set_option maxRecDepth 100000 in
set_option maxHeartbeats 0 in
theorem PySem.Challenge.cw_filledrow_k08_texts_of_tables_holds : PySem.Challenge.rw_filledrow_k08_texts_of_tables.Holds := by
  w_on; o_law; k_head; (case hw => w_witness2)
  k_fill
  refine XT.walk_tabs (l := PySem.Challenge.rw_filledrow_k08_texts_of_tables) (n := 63) (k := 11) (x := "script") ["_law_read_right", "law"] rfl (by decide) rfl ⟨rfl, by decide, by decide⟩ (by decide +kernel) (fun w h Y => PySem.W.km_in_of Y) ?F
  case F =>
    intro w mg fa h Y KX G hmg own
    refine' Wd.all_mk rfl KX G hmg own ?A0 ?L0 ?D0 ?E0 ?A1 ?L1 ?D1 ?E1 ?A2 ?L2 ?D2 ?E2 ?A3 ?L3 ?D3 ?E3 ?A4 ?L4 ?D4 ?E4 ?A5 ?L5 ?D5 ?E5 ?A6 ?L6 ?D6 ?E6 ?A7 ?L7 ?D7 ?E7 ?A8 ?L8 ?D8 ?E8 ?A9 ?L9 ?D9 ?E9 ?A10 ?L10 ?D10 ?E10 ?A11 ?L11 ?D11 ?E11 ?A12 ?L12 ?D12 ?E12 ?A13 ?L13 ?D13 ?E13 ?A14 ?L14 ?D14 ?E14 ?A15 ?L15 ?D15 ?E15 ?A16 ?L16 ?D16 ?E16 ?A17 ?L17 ?D17 ?E17 ?A18 ?L18 ?D18 ?E18 ?A19 ?L19 ?D19 ?E19 ?A20 ?L20 ?D20 ?E20 ?A21 ?L21 ?D21 ?E21 ?A22 ?L22 ?D22 ?E22 ?A23 ?L23 ?D23 ?E23 ?A24 ?L24 ?D24 ?E24 ?A25 ?L25 ?D25 ?E25 ?A26 ?L26 ?D26 ?E26 ?A27 ?L27 ?D27 ?E27 ?A28 ?L28 ?D28 ?E28 ?AP0 ?LP ?DP ?EP ?CP ?VP ?WP ?NP ?AL0 ?LL ?DL ?EL ?CL ?VL ?WL ?NL ?NP2 ?ALN ?AMN ?ACh ?ASt ?ANN ?LN ?xA_B ?xL_B ?hm_B ?xa_B ?xl_B ?xc_B ?xk_B ?xb_B ?xA_T ?xL_T ?hm_T ?xa_T ?xl_T ?xc_T ?xk_T ?xb_T ?xx ?AC ?ai ?li ?ci ?ki ?ni ?TEl ?El ?a0 ?l0 ?c0 ?k0 ?n0 ?i0 ?a1 ?l1 ?c1 ?k1 ?n1 ?a2 ?l2 ?c2 ?k2 ?n2 ?aR ?rcR ?lR ?cR_ ?kR_ ?iR_ ?q_rd ?q_ga ?q_pg ?q_hd ?q_po ?q_sa ?q_nS ?q_nU ?q_nW ?q_nP ?q_ha ?q_hn ?q_htk ?q_hm ?q_mk ?q_kp ?q_ne ?q_ks ?AW ?wa0 ?wlk0 ?wcd0 ?wk0 ?wf0 ?wa1 ?wlk1 ?wcd1 ?wk1 ?wf1 ?wa2 ?wlk2 ?wcd2 ?wk2 ?wf2 ?wa3 ?wlk3 ?wcd3 ?wk3 ?wf3 ?wa4 ?wlk4 ?wcd4 ?wk4 ?wf4 ?wa5 ?wlk5 ?wcd5 ?wk5 ?wf5 ?w_pg ?w_hd ?w_po ?w_sa ?w_nW ?w_nA ?w_mk ?w_kp ?fa_I ?fl_I ?fc_I ?fk_I ?ft_I ?fa_N ?ff_N ?fl_N ?fc_N ?fk_N ?ft_N ?z_isinstance ?z_int ?z_bool ?z_str ?z_len ?z_sorted ?z_tuple ?z_sum ?z_list ?z_dict ?z_range ?z_abs ?z_all ?z_repr
    (case A0 => k_is)
    (case L0 => k_is)
    (case D0 => k_is)
    (case E0 => k_is)
    (case A1 => k_is)
    (case L1 => k_is)
    (case D1 => k_is)
    (case E1 => k_is)
    (case A2 => k_is)
    (case L2 => k_is)
    (case D2 => k_is)
    (case E2 => k_is)
    (case A3 => k_is)
    (case L3 => k_is)
    (case D3 => k_is)
    (case E3 => k_is)
    (case A4 => k_is)
    (case L4 => k_is)
    (case D4 => k_is)
    (case E4 => k_is)
    (case A5 => k_is)
    (case L5 => k_is)
    (case D5 => k_is)
    (case E5 => k_is)
    (case A6 => k_is)
    (case L6 => k_is)
    (case D6 => k_is)
    (case E6 => k_is)
    (case A7 => k_is)
    (case L7 => k_is)
    (case D7 => k_is)
    (case E7 => k_is)
    (case A8 => k_is)
    (case L8 => k_is)
    (case D8 => k_is)
    (case E8 => k_is)
    (case A9 => k_is)
    (case L9 => k_is)
    (case D9 => k_is)
    (case E9 => k_is)
    (case A10 => k_is)
    (case L10 => k_is)
    (case D10 => k_is)
    (case E10 => k_is)
    (case A11 => k_is)
    (case L11 => k_is)
    (case D11 => k_is)
    (case E11 => k_is)
    (case A12 => k_is)
    (case L12 => k_is)
    (case D12 => k_is)
    (case E12 => k_is)
    (case A13 => k_is)
    (case L13 => k_is)
    (case D13 => k_is)
    (case E13 => k_is)
    (case A14 => k_is)
    (case L14 => k_is)
    (case D14 => k_is)
    (case E14 => k_is)
    (case A15 => k_is)
    (case L15 => k_is)
    (case D15 => k_is)
    (case E15 => k_is)
    (case A16 => k_is)
    (case L16 => k_is)
    (case D16 => k_is)
    (case E16 => k_is)
    (case A17 => k_is)
    (case L17 => k_is)
    (case D17 => k_is)
    (case E17 => k_is)
    (case A18 => k_is)
    (case L18 => k_is)
    (case D18 => k_is)
    (case E18 => k_is)
    (case A19 => k_is)
    (case L19 => k_is)
    (case D19 => k_is)
    (case E19 => k_is)
    (case A20 => k_is)
    (case L20 => k_is)
    (case D20 => k_is)
    (case E20 => k_is)
    (case A21 => k_is)
    (case L21 => k_is)
    (case D21 => k_is)
    (case E21 => k_is)
    (case A22 => k_is)
    (case L22 => k_is)
    (case D22 => k_is)
    (case E22 => k_is)
    (case A23 => k_is)
    (case L23 => k_is)
    (case D23 => k_is)
    (case E23 => k_is)
    (case A24 => k_is)
    (case L24 => k_is)
    (case D24 => k_is)
    (case E24 => k_is)
    (case A25 => k_is)
    (case L25 => k_is)
    (case D25 => k_is)
    (case E25 => k_is)
    (case A26 => k_is)
    (case L26 => k_is)
    (case D26 => k_is)
    (case E26 => k_is)
    (case A27 => k_is)
    (case L27 => k_is)
    (case D27 => k_is)
    (case E27 => k_is)
    (case A28 => k_is)
    (case L28 => k_is)
    (case D28 => k_is)
    (case E28 => k_is)
    (case AP0 => k_is)
    (case LP => k_is)
    (case DP => k_is)
    (case EP => k_is)
    (case CP => k_is)
    (case VP => rfl)
    (case WP => kernel_rfl)
    (case NP => kernel_rfl)
    (case AL0 => k_is)
    (case LL => k_is)
    (case DL => k_is)
    (case EL => k_is)
    (case CL => k_is)
    (case VL => rfl)
    (case WL => kernel_rfl)
    (case NL => kernel_rfl)
    (case NP2 => kernel_rfl)
    (case ALN => k_is)
    (case AMN => k_is)
    (case ACh => k_is)
    (case ASt => k_is)
    (case ANN => k_is)
    (case LN => k_is)
    (case xA_B => k_is)
    (case xL_B => k_is)
    (case hm_B => rfl)
    (case xa_B => k_is)
    (case xl_B => k_is)
    (case xc_B => k_is)
    (case xk_B => k_is)
    (case xb_B => kernel_rfl)
    (case xA_T => k_is)
    (case xL_T => k_is)
    (case hm_T => rfl)
    (case xa_T => k_is)
    (case xl_T => k_is)
    (case xc_T => k_is)
    (case xk_T => k_is)
    (case xb_T => kernel_rfl)
    (case xx => kernel_rfl)
    (case AC => k_is)
    (case ai => k_is)
    (case li => k_is)
    (case ci => k_is)
    (case ki => k_is)
    (case ni => k_is)
    (case TEl => k_is)
    (case El => k_is)
    (case a0 => k_is)
    (case l0 => k_is)
    (case c0 => k_is)
    (case k0 => k_is)
    (case n0 => k_is)
    (case i0 => k_is)
    (case a1 => k_is)
    (case l1 => k_is)
    (case c1 => k_is)
    (case k1 => k_is)
    (case n1 => k_is)
    (case a2 => k_is)
    (case l2 => k_is)
    (case c2 => k_is)
    (case k2 => k_is)
    (case n2 => k_is)
    (case aR => k_is)
    (case rcR => k_is)
    (case lR => k_is)
    (case cR_ => k_is)
    (case kR_ => k_is)
    (case iR_ => k_is)
    (case q_rd => k_is)
    (case q_ga => k_is)
    (case q_pg => k_is)
    (case q_hd => k_is)
    (case q_po => k_is)
    (case q_sa => k_is)
    (case q_nS => k_is)
    (case q_nU => k_is)
    (case q_nW => k_is)
    (case q_nP => k_is)
    (case q_ha => k_is)
    (case q_hn => k_is)
    (case q_htk => k_is)
    (case q_hm => k_is)
    (case q_mk => k_is)
    (case q_kp => k_is)
    (case q_ne => k_is)
    (case q_ks => kernel_rfl)
    (case AW => k_is)
    (case wa0 => k_is)
    (case wlk0 => k_is)
    (case wcd0 => k_is)
    (case wk0 => k_is)
    (case wf0 => k_is)
    (case wa1 => k_is)
    (case wlk1 => k_is)
    (case wcd1 => k_is)
    (case wk1 => k_is)
    (case wf1 => k_is)
    (case wa2 => k_is)
    (case wlk2 => k_is)
    (case wcd2 => k_is)
    (case wk2 => k_is)
    (case wf2 => k_is)
    (case wa3 => k_is)
    (case wlk3 => k_is)
    (case wcd3 => k_is)
    (case wk3 => k_is)
    (case wf3 => k_is)
    (case wa4 => k_is)
    (case wlk4 => k_is)
    (case wcd4 => k_is)
    (case wk4 => k_is)
    (case wf4 => k_is)
    (case wa5 => k_is)
    (case wlk5 => k_is)
    (case wcd5 => k_is)
    (case wk5 => k_is)
    (case wf5 => k_is)
    (case w_pg => k_is)
    (case w_hd => k_is)
    (case w_po => k_is)
    (case w_sa => k_is)
    (case w_nW => k_is)
    (case w_nA => k_is)
    (case w_mk => k_is)
    (case w_kp => k_is)
    (case fa_I => k_is)
    (case fl_I => k_is)
    (case fc_I => k_is)
    (case fk_I => k_is)
    (case ft_I => k_is)
    (case fa_N => k_is)
    (case ff_N => k_is)
    (case fl_N => k_is)
    (case fc_N => k_is)
    (case fk_N => k_is)
    (case ft_N => k_is)
    (case z_isinstance => k_is)
    (case z_int => k_is)
    (case z_bool => k_is)
    (case z_str => k_is)
    (case z_len => k_is)
    (case z_sorted => k_is)
    (case z_tuple => k_is)
    (case z_sum => k_is)
    (case z_list => k_is)
    (case z_dict => k_is)
    (case z_range => k_is)
    (case z_abs => k_is)
    (case z_all => k_is)
    (case z_repr => k_is)

