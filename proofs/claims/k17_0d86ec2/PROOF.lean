import PyProof.Rows.All
import Wide.All
import OpenK.AllK
import Wide.FinOn
import HandS.Base
import HandS.Call
import HandS.List
import HandS.Ends
import HandS.Words
import HandS.WordsList
import HandS.IsInst
import HandS.StrMore
import HandS.Text
import HandS.Flow
import HandS.Defaults
import PySem.Challenge.RW_filledrow_k17_texts_of_fillings
import HandS.Exc
import HandS.ForMost
import HandS.ExcOwn
import HandS.ExcInit
import HandS.ExcIs
import HandS.ExcField
import HandS.ExcValue
import HandS.RaiseMore
import PyProof.ReprRoads
import PyProof.CallFns
import KE.IntTextLaws
import HandS.Style
import HandS.Star
import HandS.Codes
import HandS.Wide
import HandS.WideBits
import PyProof.Rows.RegStrFacts
import PyProof.Rows.StrJoinMade
import HandS.Walk
import HandS.Iter
import HandS.Comp
import HandS.DictComp
import PyProof.Rows.StrMeet
import HandS.Conv
import HandS.Dict
import HandS.More
import KE.KParD
import PyProof.DictUpdate
import KE.KStar
import HandS.MakeKw
import HandS.ClsMeth
import HandS.SortKw
import KE.SortData
import KE.KEqDict
import PyProof.DictFindH
import HandS.WordsExc
import PyProof.StrLawsRepr
import KE.KDictWalk
import HandS.Sort
import HandS.FStr
import KE.KCallOwn
import KE.KOpsOwn
import KE.KOwnIter
import HandS.IterVal
import PyProof.WalksMore
import PyProof.StrLawsChain
import KE.KDictDisplayH
import HandS.Steps
import KE.KDictPairs
import PyProof.StrBlock2
import HandS.Records
import OpenK.KOps
import KE.KFmtOwn
import PyProof.TwoTypes
import HandS.Lambda
import HandS.EndOwn
set_option Elab.async false
set_option linter.all false
set_option maxRecDepth 100000
set_option maxHeartbeats 4000000
/-! The small defs of the program that ask of which kind a value is. -/
namespace Fk
open PySem PySem.Spec PyProof.Rows L2
def top (i : Nat) : Stmt := PySem.Challenge.pw_filledrow_k17_texts_of_fillings.main.body.getD i (.Pass ⟨0, 0, 0, 0⟩)
abbrev sInteger : Stmt := top 13
abbrev sAmount : Stmt := top 14
abbrev sName : Stmt := top 15
abbrev sNames : Stmt := top 17
abbrev sAmounts : Stmt := top 26
/-- the built-ins that are still themselves, and the constants -/
structure Blt (mg : Str → Option Value) : Prop where
  isi : mg "isinstance" = none
  int : mg "int" = none
  bool : mg "bool" = none
  str : mg "str" = none
  len : mg "len" = none
/-- is_integer(value, least) -/
def spInteger (K : PySem.W.Frag) : Sp := fun vs H Q _ => ∃ (v : V) (n : Int), vs = [v, .int n] ∧
  ((∃ i, v = .int i ∧ Q (.bl (decide (n ≤ i))) H) ∨ (∃ b, v = .bl b ∧ Q (.bl false) H) ∨ (∃ t, TyX K H v (.type t) ∧ kitB t "int" = some false ∧ Q (.bl false) H))
def spAmount (K : PySem.W.Frag) : Sp := fun vs H Q _ => ∃ (v : V), vs = [v] ∧
  ((∃ i, v = .int i ∧ Q (.bl (decide (0 ≤ i))) H) ∨ (∃ b, v = .bl b ∧ Q (.bl false) H) ∨ (∃ t, TyX K H v (.type t) ∧ kitB t "int" = some false ∧ Q (.bl false) H))
/-- what a text is to be a name -/
def nameB (x : Str) : Bool := decide ((x.length : Int) ≤ 8) && !(inV (.str x) [.str "none", .str "self"]) && Txt.isascii x && Txt.isalpha x && Txt.islower x
def spName (K : PySem.W.Frag) : Sp := fun vs H Q _ => ∃ (v : V), vs = [v] ∧
  ((∃ x, v = .str x ∧ x.length ≤ sizeLine ∧ Q (.bl (nameB x)) H) ∨ (∃ t, TyX K H v (.type t) ∧ kitB t "str" = some false ∧ Q (.bl false) H))
theorem scInteger : FnScope ["value", "least"] ["value", "least"] (defScope sInteger) := ⟨rfl, rfl, rfl, by decide +kernel, rfl, by decide +kernel, by decide +kernel⟩
theorem scAmount : FnScope ["value"] ["value"] (defScope sAmount) := ⟨rfl, rfl, rfl, by decide +kernel, rfl, by decide +kernel, by decide +kernel⟩
theorem scName : FnScope ["value"] ["value"] (defScope sName) := ⟨rfl, rfl, rfl, by decide +kernel, rfl, by decide +kernel, by decide +kernel⟩
section
variable {P : Program} {w : World} {K : PySem.W.Frag} {mg : Str → Option Value} {base : Heap} {f fI fN : Addr} {fd fdI fdN : FuncData}
theorem ok_integer (F : FunD K "is_integer" "is_integer" (defArgs sInteger) (defBody sInteger) (defScope sInteger) [.non] [] f fd) (T : Blt mg) : FnOk P w K mg base CX0 1 f fd ["value", "least"] (spInteger K) := by
  refine F.ok (CX := CX0) scInteger (fun vs H Q E h => ?_) (fun cdv A outer s H vs Q E hr h => ?_)
  · obtain ⟨v, n, rfl, _⟩ := h
    rfl
  · obtain ⟨v, n, rfl, h⟩ := h
    refine ⟨_, PSs.nox (pss_one (ps_ret (pe_and (pe_callB call_isi (by rfl) T.isi (by decide +kernel) (pa_cons (pv 0) (pa_cons (pe_bltn (v := .ty "int") (by rfl) T.int (by decide +kernel) rfl) pa_nil)))
      (pe_and (pe_not (pe_callB call_isi (by rfl) T.isi (by decide +kernel) (pa_cons (pv 0) (pa_cons (pe_bltn (v := .ty "bool") (by rfl) T.bool (by decide +kernel) rfl) pa_nil)))) (pe_one (pe_or (pe_cmpR op_isN (pv 1) pe_non (nomark _)) (pe_one (pe_cmpR op_ge (pv 0) (pv 1) (nomark _))))))))), ?_⟩
    rcases h with ⟨i, rfl, q⟩ | ⟨b, rfl, q⟩ | ⟨t, ty, e, q⟩
    · exact ⟨_, rfl, _, _, _, _, true, rfl, .ty _, .base (.int i), kit_ty (by decide +kernel), _, rfl, _, rfl, _, _, _, _, false, rfl, .ty _, .base (.int i), kit_ty (by decide +kernel), _, rfl, true, rfl, _, rfl, rfl, _, rfl, _, rfl, _, rfl, _, _, rfl, rfl, q⟩
    · exact ⟨_, rfl, _, _, _, _, true, rfl, .ty _, .base (.bl b), kit_ty (by decide +kernel), _, rfl, _, rfl, _, _, _, _, true, rfl, .ty _, .base (.bl b), kit_ty (by decide +kernel), _, rfl, false, rfl, q⟩
    · exact ⟨_, rfl, _, _, _, _, false, rfl, .ty _, ty, kit_ty e, _, rfl, q⟩
theorem ok_amount (F : Fun K "is_amount" "is_amount" sAmount f fd) (G : FnOk P w K mg base CX0 1 fI fdI ["value", "least"] (spInteger K)) (b : Binds K fdI ["value", "least"] []) (gI : mg "is_integer" = some (.ref fI)) (kI : PySem.W.keepIn K (.ref fI) = true) :
    FnOk P w K mg base CX0 2 f fd ["value"] (spAmount K) := by
  refine F.ok scAmount (fun vs H Q E h => ?_) (fun cdv A outer s H vs Q E hr h => ?_)
  · obtain ⟨v, rfl, _⟩ := h
    rfl
  · obtain ⟨v, rfl, h⟩ := h
    refine ⟨_, pss_one (ps_ret (pe_call G hr (by rfl) gI kI b .nil pass0 (pa_cons (pv 0) (pa_cons pe_int pa_nil)))), ?_⟩
    exact ⟨_, rfl, v, 0, rfl, h⟩
theorem ok_name (F : Fun K "is_name" "is_name" sName f fd) (T : Blt mg) {tL tN : Nat} {aN : Addr} (gL : mg "LONGEST_NAME" = some (.int 8 tL)) (gN : mg "NO_NAMES" = some (.ref aN)) (hN : ∀ H, SqT K H aN [.str "none", .str "self"]) :
    FnOk P w K mg base CX0 1 f fd ["value"] (spName K) := by
  refine F.ok scName (fun vs H Q E h => ?_) (fun cdv A outer s H vs Q E hr h => ?_)
  · obtain ⟨v, rfl, _⟩ := h
    rfl
  · obtain ⟨v, rfl, h⟩ := h
    refine ⟨_, pss_cons (ps_if (PW.pt (pw_or (pt_not (pt_val (pe_callB call_isi (by rfl) T.isi (by decide +kernel) (pa_cons (pv 0) (pa_cons (pe_bltn (v := .ty "str") (by rfl) T.str (by decide +kernel) rfl) pa_nil)))))
        (pw_or (pt_cmpR op_gt (pe_callB call_len_str (by rfl) T.len PySem.boot_len (pa_cons (pv 0) pa_nil)) (pe_glob (v := .int 8) (by rfl) gL ⟨_, rfl⟩) (nomark _)) (pw_or1 (pt_cmpR op_in_seq (pv 0) (pe_glob (v := .ref aN) (by rfl) gN rfl) (by rfl))))))
        (pss_one (ps_ret pe_bl)) pss_nil)
      (pss_one (ps_ret (pe_and (pe_bm0 PySem.F.plainAttrs_str PySem.F.slot_str_isascii PySem.F.type_str_isascii mt_isascii (pv 0)) (pe_and (pe_bm0 PySem.F.plainAttrs_str PySem.F.slot_str_isalpha PySem.F.type_str_isalpha mt_isalpha (pv 0)) (pe_one (pe_bm0 PySem.F.plainAttrs_str PySem.F.slot_str_islower PySem.F.type_str_islower mt_islower (pv 0))))))), ?_⟩
    rcases h with ⟨x, rfl, hx, q⟩ | ⟨t, ty, e, q⟩
    · refine ⟨_, rfl, _, _, _, _, true, rfl, .ty _, .base (.str x), kit_ty (by decide +kernel), _, rfl, ?_⟩
      refine ⟨_, rfl, x, rfl, hx, _, _, rfl, rfl, _, rfl, ?_⟩
      by_cases h8 : (8 : Int) < x.length
      · rw [decide_eq_true h8]
        have e : nameB x = false := by
          unfold nameB
          rw [decide_eq_false (by omega)]
          rfl
        rw [e] at q
        exact q
      · rw [decide_eq_false h8]
        refine ⟨_, rfl, aN, _, rfl, .inr (hN H), rfl, rfl, _, rfl, ?_⟩
        cases hn : inV (.str x) [.str "none", .str "self"] with
        | true =>
          have e : nameB x = false := by
            unfold nameB
            rw [hn]
            simp
          rw [e] at q
          exact q
        | false =>
          have e : nameB x = (Txt.isascii x && Txt.isalpha x && Txt.islower x) := by
            unfold nameB
            rw [hn, decide_eq_true (by omega)]
            simp
          rw [e] at q
          refine ⟨_, rfl, rfl, x, rfl, rfl, trivial, _, rfl, ?_⟩
          cases h1 : Txt.isascii x with
          | false => rw [h1] at q; exact q
          | true =>
            refine ⟨_, rfl, rfl, x, rfl, rfl, trivial, _, rfl, ?_⟩
            cases h2 : Txt.isalpha x with
            | false => rw [h1, h2] at q; exact q
            | true =>
              rw [h1, h2] at q
              exact ⟨_, rfl, rfl, x, rfl, rfl, trivial, q⟩
    · exact ⟨_, rfl, _, _, _, _, false, rfl, .ty _, ty, kit_ty e, _, rfl, q⟩
/-- what is never reached -/
theorem ps_dead {X : Cx} {st : Stmt} : PS X st (fun _ _ _ => False) := ⟨fun _ _ _ _ _ _ h => h.elim⟩
/-- a text that is a name -/
def NameV (v : V) : Prop := ∃ x : Str, v = .str x ∧ x.length ≤ sizeLine ∧ nameB x = true
/-- an amount -/
def AmtV (v : V) : Prop := ∃ i : Int, v = .int i ∧ 0 ≤ i
/-- check_names(values), all of them names; check_amounts(values), all of them amounts -/
def spAll (K : PySem.W.Frag) (R : V → Prop) : Sp := fun vs H Q _ => ∃ (a : Addr) (xs : List V), vs = [.ref a] ∧ SqL K H a xs ∧ (∀ x ∈ xs, R x) ∧ Q .non H
theorem scNames : FnScope ["values", "value"] ["values"] (defScope sNames) := ⟨rfl, rfl, rfl, by decide +kernel, rfl, by decide +kernel, by decide +kernel⟩
theorem scAmounts : FnScope ["values", "value"] ["values"] (defScope sAmounts) := ⟨rfl, rfl, rfl, by decide +kernel, rfl, by decide +kernel, by decide +kernel⟩
theorem ok_names (F : Fun K "check_names" "check_names" sNames f fd) (G : FnOk P w K mg base CX0 1 fN fdN ["value"] (spName K)) (b : Binds K fdN ["value"] []) (gN : mg "is_name" = some (.ref fN)) (kN : PySem.W.keepIn K (.ref fN) = true) :
    FnOk P w K mg base CX0 2 f fd ["values"] (spAll K NameV) := by
  have nd := scNames.nd
  refine F.ok scNames (fun vs H Q E h => ?_) (fun cdv A outer s H vs Q E hr h => ?_)
  · obtain ⟨a, xs, rfl, _⟩ := h
    rfl
  · obtain ⟨a, xs, rfl, hS, hx, q⟩ := h
    refine ⟨_, pss_one (ps_for PassesOwn.never rfl (pi_list (pv 0)) (pg_name (i := 1) nd rfl (Or.inl rfl))
      (pss_one (ps_if (pt_not (pt_val (pe_call G hr (by rfl) gN kN b .nil pass0 (pa_cons (pv 1) pa_nil)))) (pss_one ps_dead) pss_nil))), ?_⟩
    refine ⟨_, rfl, a, rfl, ⟨_, hS⟩, for_list (xs := xs) (fun i σ H' => H' = H ∧ ∃ o, σ = [some (.ref a), o]) ⟨rfl, _, rfl⟩ (fun i σ H' _ h => by rw [h.1]; exact hS) (fun i x σ H' hi h => ?_) (fun σ H' h => ?_)⟩
    · obtain ⟨rfl, o, rfl⟩ := h
      obtain ⟨z, rfl, hz, hn⟩ := hx x (List.mem_of_getElem? hi)
      refine ⟨_, rfl, _, rfl, .inl ⟨z, rfl, hz, _, rfl, ?_⟩⟩
      rw [hn]
      exact ⟨rfl, _, rfl⟩
    · obtain ⟨rfl, o, rfl⟩ := h
      exact q
theorem ok_amounts (F : Fun K "check_amounts" "check_amounts" sAmounts f fd) (G : FnOk P w K mg base CX0 2 fN fdN ["value"] (spAmount K)) (b : Binds K fdN ["value"] []) (gN : mg "is_amount" = some (.ref fN)) (kN : PySem.W.keepIn K (.ref fN) = true) :
    FnOk P w K mg base CX0 3 f fd ["values"] (spAll K AmtV) := by
  have nd := scAmounts.nd
  refine F.ok scAmounts (fun vs H Q E h => ?_) (fun cdv A outer s H vs Q E hr h => ?_)
  · obtain ⟨a, xs, rfl, _⟩ := h
    rfl
  · obtain ⟨a, xs, rfl, hS, hx, q⟩ := h
    refine ⟨_, pss_one (ps_for PassesOwn.never rfl (pi_list (pv 0)) (pg_name (i := 1) nd rfl (Or.inl rfl))
      (pss_one (ps_if (pt_not (pt_val (pe_call G hr (by rfl) gN kN b .nil pass0 (pa_cons (pv 1) pa_nil)))) (pss_one ps_dead) pss_nil))), ?_⟩
    refine ⟨_, rfl, a, rfl, ⟨_, hS⟩, for_list (xs := xs) (fun i σ H' => H' = H ∧ ∃ o, σ = [some (.ref a), o]) ⟨rfl, _, rfl⟩ (fun i σ H' _ h => by rw [h.1]; exact hS) (fun i x σ H' hi h => ?_) (fun σ H' h => ?_)⟩
    · obtain ⟨rfl, o, rfl⟩ := h
      obtain ⟨z, rfl, hz⟩ := hx x (List.mem_of_getElem? hi)
      refine ⟨_, rfl, _, rfl, .inl ⟨z, rfl, _, rfl, ?_⟩⟩
      rw [decide_eq_true hz]
      exact ⟨rfl, _, rfl⟩
    · obtain ⟨rfl, o, rfl⟩ := h
      exact q
end
end Fk

set_option Elab.async false
set_option linter.all false
set_option maxRecDepth 100000
set_option maxHeartbeats 4000000
/-! An own class of errors is called with keywords too: what BaseException.__new__ makes, then its own __init__. -/
namespace PySem
namespace XK
open PySem.W PySem.Calls PyProof.Rows PySem.HandSPX
section
variable {prog : Program} {w : World} {A : Around} {E : Value → Shared → Prop} {R : Result → Shared → Prop} {h : Heap} {g : Array GenState} {d : Drawn} {t : Nat} {os : OsState}
variable {nm q : Str} {C N : Addr} {bs bm up : List Value} {hdct : Bool} {sn : List Str} {sub : List Value} {ab : Bool} {col : Option Bool} {dd : Option Addr} {k0 k1 k2 k3 k5 : Option Value} {B newId initId : String} {us : List Value} {kw : List (Str × Value)} {fI : Addr}
/-- the class C, with bm above it, has the builtin ones that the base's chain `up` has -/
theorem above (same : ∀ n : String, bm.contains (.type n) = up.contains (.type n)) {n : String} {b : Bool} (e : up.contains (.type n) = b) : (Value.ref C :: bm).contains (.type n) = b := by
  rw [List.contains_cons, same, e]
  rfl
/-- new(C, *us, **kw): the error, its args a new tuple -/
theorem new_kw (F : ExcBaseFacts B newId initId up) (same : ∀ n : String, bm.contains (.type n) = up.contains (.type n)) (at_C : h.get? C = some (excClassObj nm q C N bs bm hdct sn sub ab col dd k0 k1 k2 k3 k5 newId)) (short : us.length ≤ sizeLine)
    (k : R (.ok (.ret (.ref (h.objs.size + 1)))) ⟨(h.push (W.kdv_tup us)).push (excO C h.objs.size), g, d, t, os⟩) : codeAny (model prog w) A (.builtin newId ⟨.ref C :: us, kw⟩) R ⟨h, g, d, t, os⟩ := by
  have yes := above (C := C) same F.hasB
  have noA := above (C := C) same F.noAttr
  have noN := above (C := C) same F.noName
  have room := F.ends
  refine codeAny_builtinAt F.entry ?_
  unfold Builtin.«BaseException.__new__»
  refine wpAt_bind ?_
  show wpAt _ _ _ (stack >>= _) _ _ _
  refine wpAt_bind (wpAt_stack fun _ _ => wpAt_of_wpAny ?_)
  wp_walk
  refine wpAt_of_wpAny ?_
  rw [F.owner]
  repeat (first
    | with_reducible refine wpAny_madeHere_exc F.canon at_C ?_
    | with_reducible refine wpAny_loadPart_at at_C ?_
    | (with_reducible refine wpAny_isSubtype_exc at_C ?_; (first | rw [yes] | rw [noA] | rw [noN]))
    | wp_step)
  show R _ _
  rw [Heap.size_push]
  exact k
/-- type.__call__(C, *us, **kw): the error at the second new address; then __init__ at fI has it -/
theorem type_call_kw {Q : Fin → Shared → Prop} (F : ExcBaseFacts B newId initId up) (same : ∀ n : String, bm.contains (.type n) = up.contains (.type n)) (at_C : h.get? C = some (excClassObj nm q C N bs bm hdct sn sub ab col dd k0 k1 k2 k3 k5 newId)) (short : us.length ≤ sizeLine)
    (init : W.Looks (model prog w) h (typeLookup (.ref C) "__init__") (some (.ref fI))) (bind : ∀ self, W.Looks (model prog w) h (bindSpecial (.ref fI) self) (.ref fI, [self]))
    (k : codeAny (model prog w) A (.call (.ref fI) ⟨.ref (h.objs.size + 1) :: us, kw⟩)
      (fun r s' => match r with | .ok (.ret v) => v = .none ∧ Q (.done (.ret (.ref (h.objs.size + 1)))) s' | .ok _ => False | .error e => E e s') ⟨(h.push (W.kdv_tup us)).push (excO C h.objs.size), g, d, t, os⟩) :
    wpAny (model prog w) A (Builtin.«type.__call__» ⟨.ref C :: us, kw⟩) Q E ⟨h, g, d, t, os⟩ := by
  have old : ∀ b o, h.get? b = some o → ((h.push (W.kdv_tup us)).push (excO C h.objs.size)).get? b = some o := fun b o e => Heap.get?_push_of_some _ (Heap.get?_push_of_some _ e)
  have made : ((h.push (W.kdv_tup us)).push (excO C h.objs.size)).get? (h.objs.size + 1) = some (excO C h.objs.size) := by heap_get
  have itself : (Value.ref C :: bm).contains (.ref C) = true := by simp
  have yes := above (C := C) same F.hasB
  have star := F.noStar
  repeat (first | with_reducible refine wpAny_loadPart_at at_C ?_ | with_reducible refine wpAny_madeBy_exc at_C ?_ | wp_step)
  refine codeAny_call_builtin_code (Code.quiet_builtin _ F.quiet) ?_
  -- new's own arguments pass: any, with any keywords
  simp only [checkBuiltinCall, F.newKind, F.newSplit, F.newRow]
  repeat (first
    | refine wpAny_loadPart_at at_C ?_
    | (refine wpAny_isSubtype_exc at_C ?_; rw [yes])
    | refine wpAny_staticBase_exc at_C ?_
    | refine wpAny_madeBy_exc at_C ?_
    | simp only [bne_self_eq_false, Bool.false_eq_true, if_false]
    | wp_step)
  refine new_kw F same at_C short ?_
  show wpAny _ _ _ _ _ _
  unfold isInstance
  have at_C' := old _ _ at_C
  repeat (first | with_reducible refine wpAny_loadPart_at made ?_ | (with_reducible refine wpAny_isSubtype_exc at_C' ?_; rw [itself]) | wp_step)
  show wpAny _ _ (typeLookup (.ref C) _) _ _ _
  refine (init.keeps old).at (wpAny_holding (wpAny_bind (((bind _).keeps old).at (wpAny_bind (wpAny_call (codeAny_mono k fun r s' z => ?_))))))
  rcases r with e | (v | _ | _ | _)
  all_goals first | exact z | exact z.elim | skip
  obtain ⟨rfl, z⟩ := z
  first
    | exact wpAny_pure (wpAny_pure z)
    | (wp_walk; exact z)
/-- C(*us, **kw) -/
theorem call_kw (F : ExcBaseFacts B newId initId up) (same : ∀ n : String, bm.contains (.type n) = up.contains (.type n)) (at_C : h.get? C = some (excClassObj nm q C N bs bm hdct sn sub ab col dd k0 k1 k2 k3 k5 newId)) (short : us.length ≤ sizeLine)
    (init : W.Looks (model prog w) h (typeLookup (.ref C) "__init__") (some (.ref fI))) (bind : ∀ self, W.Looks (model prog w) h (bindSpecial (.ref fI) self) (.ref fI, [self]))
    (k : codeAny (model prog w) (A.under (.builtin "type.__call__" ⟨.ref C :: us, kw⟩)) (.call (.ref fI) ⟨.ref (h.objs.size + 1) :: us, kw⟩) (W.InitBack (h.objs.size + 1) R) ⟨(h.push (W.kdv_tup us)).push (excO C h.objs.size), g, d, t, os⟩) :
    codeAny (model prog w) A (.call (.ref C) ⟨us, kw⟩) R ⟨h, g, d, t, os⟩ := by
  have look := tc_lookup
  have self := tc_bind (.ref C)
  have isT : (⟨h, g, d, t, os⟩ : Shared).TypeIs (.ref C) "type" := ⟨_, at_C, rfl⟩
  refine codeAny_of_tree ?_
  show wpAny _ _ (callAny (.ref C) _) _ _ _
  repeat (any_goals (first | assumption | with_reducible refine wpAny_loadPart_at at_C ?_ | wp_step))
  refine ⟨rfl, codeAny_call_builtin_at (Code.quiet_builtin _ (by decide +kernel)) entry_typeCall (wpAny_check_type_call_sub at_C (type_call_kw F same at_C short init bind (codeAny_mono k fun r s' z => ?_)))⟩
  rcases r with e | (v | _ | _ | _) <;> exact z
end
end XK
end PySem

set_option Elab.async false
set_option linter.all false
set_option maxRecDepth 100000
set_option maxHeartbeats 4000000
namespace PySem
namespace XK
open PySem.W PySem.Calls PyProof.Rows PySem.HandSPX
section
variable {prog : Program} {w : World} {A : Around} {E : Value → Shared → Prop} {s : Shared} {K : Frag} {x D : Addr} {ox : Obj}
/-- a data descriptor of the class goes ahead of the object's own dict -/
theorem found_data {C : Addr} {od : Option Obj} {n : Str} {a g : Value} {cd : ClassData} (c : clsIn K C = some cd) (ha : findIn K (.ref C) n = some (some a)) (hg : specialIn K a "__get__" = some (some g)) (ht : takesIn K a = some true) : findObj K C od n = some (.bind g a) := by
  simp [findObj, c, ha, hg, ht]
/-- what the class D of an error must say, so that isinstance asks its objects rightly -/
structure Asked (K : Frag) (D : Addr) : Prop where
  ga : findIn K (.ref D) "__getattribute__" = some (some (.builtin "BaseException.__getattribute__"))
  gg : findIn K (.ref D) "__getattr__" = some none
  ex : subIn K (.ref D) (.type "BaseException") = some true
  cd : ∃ cd : ClassData, clsIn K D = some cd
  cl : findIn K (.ref D) "__class__" = some (some (.builtin "object.__class__"))
  ge : specialIn K (.builtin "object.__class__") "__get__" = some (some (.builtin "getset_descriptor.__get__"))
  tk : takesIn K (.builtin "object.__class__") = some true
  mo : mroIn K D (.type "object") = some true
theorem Asked.obj (T : Asked K D) : ∃ c d cd sl, K.lookup D = some ⟨c, d, .cls cd, sl⟩ := by
  obtain ⟨cd, e⟩ := T.cd
  unfold clsIn at e
  split at e
  · exact ⟨_, _, _, _, by assumption⟩
  · cases e
/-- e.__class__, e an error with or without a dict of its own -/
theorem Asked.get {od : Option Obj} {Q : Option Value → Shared → Prop} (T : Asked K D) (X : K.In s.heap) (I : InstAt s.heap x ox D od) (k : Q (some (.ref D)) { s with toks := s.toks + 1 }) : wpAny (model prog w) A (getAttr? (.ref x) "__class__") Q E s := by
  obtain ⟨cd, hcd⟩ := T.cd
  have found := looks_find (M := model prog w) X I (found_data (od := od) hcd T.cl T.ge T.tk)
  obtain ⟨hp, g, d, t, os⟩ := s
  have ty := I.type (M := model prog w)
  have isE : Looks (model prog w) hp (isInstance (.ref x) (.type "BaseException")) true := ty.andThen (looks_subIn X T.ex)
  have no : (onTheHeap (Value.ref D) && Value.builtin "BaseException.__getattribute__" == Value.builtin "object.__getattribute__") = false := by
    rw [show (Value.builtin "BaseException.__getattribute__" == Value.builtin "object.__getattribute__") = false by decide +kernel]
    rfl
  unfold getAttr? getAttrBy? getAttrBy
  refine wpAny_bind (wpAny_mkText (wpAny_bind (wpAny_attempt (wpAny_holding (wpAny_bind (ty.at (wpAny_bind ((looks_findIn X T.ga).at ?_))))))))
  show wpAny _ _ (if (onTheHeap (Value.ref D) && Value.builtin "BaseException.__getattribute__" == Value.builtin "object.__getattribute__") = true then _ else _) _ _ _
  rw [if_neg (by rw [no]; decide)]
  unfold getAttrByItsOwn hookBefore
  refine wpAny_bind ?_
  rw [if_pos (show onTheHeap (Value.ref D) = true from rfl)]
  refine (looks_findIn X T.gg).at (wpAny_bind (wpAny_attempt (wpAny_holding ?_)))
  unfold callGetattribute
  rw [if_neg (show ¬ (false && onTheHeap (Value.builtin "BaseException.__getattribute__")) = true by decide)]
  unfold boundAndCalled
  rw [PySem.F.excAttr_ValueError.ga.bind (.ref x)]
  refine wpAny_bind (wpAny_pure (wpAny_call (codeAny_call_builtin PySem.F.excAttr_ValueError.ga.plain PySem.F.entry_bexc_ga ?_)))
  refine @check_slot (model prog w) _ _ ⟨hp, g, d, t + 1, os⟩ "BaseException.__getattribute__" "BaseException" "__getattribute__" (.ref x) [.str "__class__" t] [] _ (by decide +kernel) (by decide +kernel) isE (PySem.F.args_bexc_ga (.ref x) (.str "__class__" t)) ?_
  unfold Builtin.«object.__getattribute__»
  refine wpAny_bind (wpAny_of_eq (a := ((Value.ref x : Value), [Value.str "__class__" t])) (by first | rfl | (simp only [slotArgs]; rfl)) (wpAny_bind (wpAny_pure (wpAny_bind (ty.at (wpAny_bind (found.at ?_)))))))
  show wpAny _ _ (holding [Value.builtin "object.__class__"] (call (.builtin "getset_descriptor.__get__") [.builtin "object.__class__", .ref x, .ref D]) >>= ret) _ _ _
  refine wpAny_bind (wpAny_holding (wpAny_call (class_get (s := ⟨hp, g, d, t + 1, os⟩) (ox := ox) (od := od) X I T.mo (wpAny_pure ?_))))
  show wpAny _ _ (handedOut (.ref D)) _ _ _
  rw [handedOut_of (v := .ref D) rfl]
  first
    | exact wpAny_pure (wpAny_pure k)
    | exact wpAny_pure k
    | exact wpAny_pure (wpAny_bind (wpAny_pure (wpAny_pure k)))
theorem Asked.kit {od : Option Obj} (T : Asked K D) : KitX K (.ref x) (.ref D) (fun h => InstAt h x ox D od) := by
  obtain ⟨c, d, cd, sl, ho⟩ := T.obj
  exact {
    ty := fun _ _ _ I => I.type
    it := fun _ _ X _ _ _ _ _ k q => by
      unfold isType loadHead
      exact wpAny_bind (wpAny_loadPart (k _ _ (X _ _ ho)) (wpAny_pure q))
    ne := fun h tp _ _ _ _ X there => Bool.eq_false_iff.mpr fun q => by
      obtain rfl : D = tp := Value.ref.inj (beq_iff_eq.mp q)
      cases (X _ _ ho).symm.trans there
    ca := fun X I k => T.get X I k }
end
end XK
end PySem

namespace L2
open PySem PySem.Spec PyProof.Rows
/-- at a: an exception of the class at C that is not raised, with its fields -/
def ErrAt (H : Hp) (a C : Addr) (fs : List (Str × V)) : Prop := (fs = [] ∧ H a = some (exo a C none)) ∨ ∃ d, H a = some (exo a C (some d)) ∧ H d = some (exd d fs)
theorem ErrAt.ex {H H' : Hp} {a C : Addr} {fs : List (Str × V)} (e : ∀ b o, H b = some o → H' b = some o) (h : ErrAt H a C fs) : ErrAt H' a C fs := by
  rcases h with ⟨e1, e2⟩ | ⟨d, e1, e2⟩
  · exact .inl ⟨e1, e _ _ e2⟩
  · exact .inr ⟨d, e _ _ e1, e _ _ e2⟩
section
variable {X : Cx} {pins : List (Addr × Obj)} {σ : St} {H : Hp} {s : Shared}
theorem ErrAt.inst {a C : Addr} {fs : List (Str × V)} (I : Inv X pins σ H s) (h : ErrAt H a C fs) : ∃ ox od, PySem.W.InstAt s.heap a ox C od := by
  rcases h with ⟨_, e⟩ | ⟨d, e, ed⟩
  · obtain ⟨t1, ho⟩ := exo_at I.hok e
    exact ⟨_, none, ho, rfl, rfl, trivial⟩
  · obtain ⟨t1, ho⟩ := exo_at I.hok e
    obtain ⟨mA, ⟨od, _, _, hd, _⟩, _⟩ := exd_at I.hok ed
    exact ⟨_, some od, ho, rfl, rfl, hd⟩
/-- isinstance(e, c), e an exception of an own class -/
def rIsX (K : PySem.W.Frag) : List V → Hp → VK → Prop := fun xs H Q => ∃ (a D : Addr) (fs : List (Str × V)) (c : V) (cv : Value) (b : Bool), xs = [.ref a, c] ∧ ErrAt H a D fs ∧ ExcC K D ∧ ClsV c cv ∧ PySem.W.kitOne K (.ref D) cv = some b ∧ Q (.bl b) H
theorem call_isX : CallR X (.builtin "isinstance") (rIsX X.K) := by
  intro pins s σ H xs us Q I r h
  obtain ⟨a, D, fs, c, cv, b, rfl, ea, C, k, e, q⟩ := h
  obtain ⟨u1, u2, rfl, r1, r2⟩ := vals2 r
  have e2 := k.eq r2
  subst e2
  cases r1
  obtain ⟨ox, od, J⟩ := ea.inst I
  exact PySem.W.kia_one (PySem.XK.Asked.kit (od := od) (ox := ox) ⟨C.hg, C.hk, C.hs, (let ⟨cd, hc, _⟩ := PySem.W.any_some C.hd; ⟨cd, hc⟩), C.ha, C.hn, C.ht, C.hm⟩) I.kIn J e (fun z => nomatch z) fun tk => ⟨.bl b, H, I.kept (t' := tk) fun _ _ z => z, rfl, q⟩
/-- e.f, e an exception of an own class -/
def tXv (K : PySem.W.Frag) (f : Str) (te : TE) : TE := fun σ H Q => te σ H fun x H1 => ∃ (a C : Addr) (fs : List (Str × V)) (v : V), x = .ref a ∧ XfC K C ∧ PySem.W.findIn K (.ref C) f = some none ∧ ErrAt H1 a C fs ∧ fs.lookup f = some v ∧ Q v H1
theorem pe_xv {e : Expr} {te : TE} {pos : Pos} {n : Str} (he : PE X e te) (hb : attributeBase e n X.env (eval e X.env) = eval e X.env := by rfl) :
    PE X (.Attribute e n pos) (tXv X.K n te) := by
  refine ⟨fun pins s σ H Q I h => ?_⟩
  refine attr_of hb (thn (he.run pins s σ H _ I h) fun u s1 hh => ?_)
  obtain ⟨x, H1, I1, rx, a, C, fs, v, ex, T, hno, ea, l, q⟩ := hh
  subst ex
  obtain rfl : u = Value.ref a := rx
  rcases ea with ⟨e1, _⟩ | ⟨dd, e1, ed⟩
  · subst e1
    cases l
  · obtain ⟨t1, ho⟩ := exo_at I1.hok e1
    obtain ⟨mA, hns, hr⟩ := exd_at I1.hok ed
    obtain ⟨od, hd, hl⟩ := lookIn_ns hns
    obtain ⟨u, hu, ru⟩ := RelO.some_of (v := v) (o := mA n) (by rw [← l]; exact hr n)
    have J : PySem.W.InstAt s1.heap a _ C (some od) := ⟨ho, rfl, rfl, hd⟩
    exact HandSPX.exc_get I1.kIn J T.ga T.gg T.exC (PySem.W.findObj_own T.hdC hno rfl (by rw [hl, hu])) (handed_of ru) ⟨v, H1, I1.tok _, ru, q⟩
/-- C(e, .., k = v, ..) as a value, C's own __init__ keeping sp -/
def tMkV (C : Addr) (n m : Nat) (sp : Sp) (gV : List V → List V → List V) (E : XK) (ta tk : TA) : TE := fun σ H Q => ta σ H fun vs H1 => tk σ H1 fun zs H2 => vs.length = n ∧ zs.length = m ∧
  ∀ a, H2 a = none → sp (gV (.ref a :: vs) zs) (upd H2 a (exo a C none)) (fun v H3 => v = .non ∧ Q (.ref a) H3) E
variable {CX : CXT} {k n : Nat} {f C fI : Addr} {fd : FuncData} {ps ks : List Str} {sp : Sp} {E : XK} {x : Str} {p pos : Pos} {e : Expr} {es : List Expr} {kws : List Keyword} {t tk : TA} {g : List Value → List Value → List Value} {gV : List V → List V → List V}
theorem run_mkv {Q : VK} {us ws : List Value} {vs zs : List V} (T : OexC X.K C) (iC : PySem.W.findIn X.K (.ref C) "__init__" = some (some (.ref fI))) (tI : PySem.W.typeIn X.K (.ref fI) = some (.type "function"))
    (F1 : FnOk X.prog X.w X.K X.mg X.base CX k fI fd ps sp) (hr : Room (k + 1) X.A) (hb : KBn X.K fd ps (n + 1) ks g gV) (hx : Passes CX X E) (I : Inv X pins σ H s) (r : Vals vs us) (rz : Vals zs ws) (l1 : vs.length = n) (l2 : zs.length = ks.length) (hn : n ≤ 1000)
    (h : ∀ a, H a = none → sp (gV (.ref a :: vs) zs) (upd H a (exo a C none)) (fun v H3 => v = .non ∧ Q (.ref a) H3) E) :
    wpAny (model X.prog X.w) X.A (call (.ref C) us (ks.zip ws)) (EP X pins σ Q) X.xe s := by
  obtain ⟨nm, q, N, bs, bm, sn, sub, ab, col, dd, k0, k1, k2, k3, k5, hC, hbm⟩ := T.cls
  obtain ⟨hp, gn, dr, tk, os⟩ := s
  have hsz : hp.objs.size ≤ hp.objs.size + 1 := Nat.le_succ _
  have hnn : H (hp.objs.size + 1) = none := I.hok.fresh hsz
  have hq := h (hp.objs.size + 1) hnn
  have kk : ∀ b o, hp.get? b = some o → ((hp.push (PySem.W.kdv_tup us)).push (PySem.HandSPX.excO C hp.objs.size)).get? b = some o := fun b o e => Heap.get?_push_of_some _ (Heap.get?_push_of_some _ e)
  have hget : ((hp.push (PySem.W.kdv_tup us)).push (PySem.HandSPX.excO C hp.objs.size)).get? (hp.objs.size + 1) = some (PySem.HandSPX.excO C hp.objs.size) := by heap_get
  have I2 : Inv X pins σ (upd H (hp.objs.size + 1) (exo (hp.objs.size + 1) C none)) ⟨(hp.push (PySem.W.kdv_tup us)).push (PySem.HandSPX.excO C hp.objs.size), gn, dr, tk, os⟩ :=
    I.laid (t' := tk) (a := hp.objs.size + 1) (o := exo (hp.objs.size + 1) C none) (h' := (hp.push (PySem.W.kdv_tup us)).push (PySem.HandSPX.excO C hp.objs.size)) kk hsz (exo_ok hget)
  have r1 : Vals (V.ref (hp.objs.size + 1) :: vs) (Value.ref (hp.objs.size + 1) :: us) := .cons rfl r
  have r2 := hb.rel r1 rz
  have e1 : (Value.ref (hp.objs.size + 1) :: us).length = n + 1 := r1.length.symm.trans (congrArg Nat.succ l1)
  have e2 : ws.length = ks.length := rz.length.symm.trans l2
  have hus : us.length ≤ sizeLine := by
    rw [← Paired.length r, sizeLine_eq, l1]
    omega
  refine wpAny_call (PySem.XK.call_kw F.excBase_ValueError (fun Y => PySem.HandSPX.refsVE_contains Y bm hbm) (I.kIn _ _ hC) hus (PySem.W.looks_findIn I.kIn iC) (fun self => PySem.W.bind_fn I.kIn self tI)
    (codeAny_mono (F1.run _ X.stack _ _ ⟨Value.ref (hp.objs.size + 1) :: us, ks.zip ws⟩ (g (Value.ref (hp.objs.size + 1) :: us) ws) _ _ E (hr.make C us (ks.zip ws)) (I2.env0.make C us (ks.zip ws)) (hb.to _ (Value.ref (hp.objs.size + 1) :: us) ws I2.kIn e1 e2) r2 hq) fun r s' hq' => ?_))
  cases r with
  | error er => exact hx pins σ _ _ er s' I2 hq'
  | ok fl =>
    cases fl with
    | ret u =>
      obtain ⟨v, H', I3, rv, ev, q3⟩ := I2.after hq'
      subst ev
      exact ⟨rv, ⟨V.ref (hp.objs.size + 1), H', I3, rfl, q3⟩⟩
    | next => exact False.elim hq'
    | brk => exact False.elim hq'
    | cont => exact False.elim hq'
/-- what such a class has -/
structure MkvC (K : PySem.W.Frag) (C fI : Addr) : Prop where
  o : OexC K C
  iC : PySem.W.findIn K (.ref C) "__init__" = some (some (.ref fI))
  tI : PySem.W.typeIn K (.ref fI) = some (.type "function")
/-- C(e, ..) -/
theorem pe_mkv (M : MkvC X.K C fI) (F : FnOk X.prog X.w X.K X.mg X.base CX k fI fd ps sp) (hr : Room (k + 1) X.A) (hg : Gl X x) (hm : X.mg x = some (.ref C)) (hb : KBn X.K fd ps (n + 1) [] g gV) (hx : Passes CX X E) (hn : n ≤ 1000)
    (ha : PA X (e :: es) t) (hdb : (x == ("__debug__" : Str)) = false := by decide) (he : starEach (e :: es) X.env = (false, eval e X.env) :: starEach es X.env := by rfl) (hpl : (backTo pos (starEach es X.env)).any (·.1) = false := by rfl) :
    PE X (.Call (.Name x p) (e :: es) [] pos) (tMkV C n 0 sp gV E t tNil) := by
  refine ⟨fun pins s σ H Q I h => ?_⟩
  refine wpAny_Call_Name_kw (ld_glob I hg hm ?_ hdb)
  refine PySem.W.callWith_K (h₀ := X.base) I.ok.mod.kin M.o.kC (thn (ha.run pos pins s σ H _ I h) fun us s1 ⟨vs, H1, I1, r, l1, l2, q⟩ => ⟨I1.kIn, ?_⟩) he hpl
  exact run_mkv (ks := []) (ws := []) (zs := []) M.o M.iC M.tI F hr hb hx I1 r .nil l1 rfl hn q
/-- C(k = v, ..) -/
theorem pe_mkv0 (M : MkvC X.K C fI) (F : FnOk X.prog X.w X.K X.mg X.base CX k fI fd ps sp) (hr : Room (k + 1) X.A) (hg : Gl X x) (hm : X.mg x = some (.ref C)) (hb : KBn X.K fd ps 1 ks g gV) (hx : Passes CX X E) (hkw : PK X kws tk)
    (hall : (backToKw pos (keywordEach kws X.env)).all (·.1.isSome) = true := by rfl) (hks : (backToKw pos (keywordEach kws X.env)).filterMap (·.1) = ks := by rfl) (hdb : (x == ("__debug__" : Str)) = false := by decide)
    (hpl : ((backTo pos (starEach [] X.env)).any (·.1) || (backToKw pos (keywordEach kws X.env)).any (·.1.isNone)) = false := by rfl) :
    PE X (.Call (.Name x p) [] kws pos) (tMkV C 0 ks.length sp gV E tNil tk) := by
  refine ⟨fun pins s σ H Q I h => ?_⟩
  refine wpAny_Call_Name_kw (ld_glob I hg hm ?_ hdb)
  refine PySem.W.callWith_KW0 (h₀ := X.base) I.ok.mod.kin M.o.kC hall ?_ hpl
  refine thn (hkw.run pos pins s σ H _ I h) fun ws s2 ⟨zs, H2, I2, rz, l1, l2, q2⟩ => ⟨I2.kIn, ?_⟩
  rw [hks]
  exact run_mkv (us := []) (vs := []) M.o M.iC M.tI F hr hb hx I2 .nil rz rfl l2 (by decide) q2
/-- C(e, .., k = v, ..) -/
theorem pe_mkvK (M : MkvC X.K C fI) (F : FnOk X.prog X.w X.K X.mg X.base CX k fI fd ps sp) (hr : Room (k + 1) X.A) (hg : Gl X x) (hm : X.mg x = some (.ref C)) (hb : KBn X.K fd ps (n + 1) ks g gV) (hx : Passes CX X E) (hn : n ≤ 1000) (ha : PA X (e :: es) t) (hkw : PK X kws tk)
    (hall : (backToKw pos (keywordEach kws X.env)).all (·.1.isSome) = true := by rfl) (hks : (backToKw pos (keywordEach kws X.env)).filterMap (·.1) = ks := by rfl) (hdb : (x == ("__debug__" : Str)) = false := by decide)
    (he : starEach (e :: es) X.env = (false, eval e X.env) :: starEach es X.env := by rfl) (hpl : ((backTo pos (starEach (e :: es) X.env)).any (·.1) || (backToKw pos (keywordEach kws X.env)).any (·.1.isNone)) = false := by rfl) :
    PE X (.Call (.Name x p) (e :: es) kws pos) (tMkV C n ks.length sp gV E t tk) := by
  refine ⟨fun pins s σ H Q I h => ?_⟩
  refine wpAny_Call_Name_kw (ld_glob I hg hm ?_ hdb)
  refine PySem.W.callWith_KW (h₀ := X.base) I.ok.mod.kin M.o.kC hall (thn (ha.run pos pins s σ H _ I h) fun us s1 ⟨vs, H1, I1, r, q⟩ => ?_) hpl he
  refine thn (hkw.run pos pins s1 σ H1 _ I1 q) fun ws s2 ⟨zs, H2, I2, rz, l1, l2, q2⟩ => ⟨I2.kIn, ?_⟩
  rw [hks]
  exact run_mkv M.o M.iC M.tI F hr hb hx I2 r rz l1 l2 hn q2
/-- C(), C(e), C an own class without own __init__ -/
theorem run_exc {Q : VK} {us : List Value} {bmB : List Value} {B newId initId : String} (F : ExcBaseFacts B newId initId bmB) (q : PySem.W.excIn X.K C bmB newId = true) (I : Inv X pins σ H s) (hl : us.length ≤ 1000)
    (h : ∀ a, H a = none → Q (.ref a) (upd H a (exo a C none))) : wpAny (model X.prog X.w) X.A (call (.ref C) us) (EP X pins σ Q) X.xe s := by
  obtain ⟨hp, gn, dr, tk, os⟩ := s
  obtain ⟨bm, N, nm, qn, bs, hdct, sn, sub, ab, col, dd, k0, k1, k2, k3, k5, mN, hC, hN, hni, T⟩ := exc_obj I.kIn q
  refine wpAny_call_exc_subT F T hC hN hni (fun h' a hm => ?_) (by rw [sizeLine_eq]; omega)
  have hn : H a = none := I.hok.gone hm.new
  obtain ⟨t, ht, _, _⟩ := hm.there
  exact ⟨.ref a, upd H a (exo a C none), I.laidN hm.keeps hm.new hn (exo_ok ht), rfl, h a hn⟩
end
end L2

set_option Elab.async false
set_option linter.all false
set_option maxRecDepth 100000
set_option maxHeartbeats 4000000
/-! Defs that are called while no repr is under way. -/
namespace XG
open PySem PySem.Spec PyProof.Rows L2
section
variable {CX : CXT} {P : Program} {w : World} {K : PySem.W.Frag} {mg : Str → Option Value} {base : Heap} {k : Nat} {f : Addr} {ps : List Str} {sp : Sp}
/-- the def at f keeps sp wherever no object is being shown -/
def FnG (P : Program) (w : World) (K : PySem.W.Frag) (mg : Str → Option Value) (base : Heap) (CX : CXT) (k : Nat) (f : Addr) (fd : FuncData) (ps : List Str) (sp : Sp) : Prop :=
  ∀ (A : Around) (outer : List Env) (s : Shared) (H : Hp) (args : Args) (us : List Value) (vs : List V) (Q : VK) (E : XK), A.guards = some [] → Room k A → Env0 P w K mg base A outer s H →
    BindsTo s fd args (ps.zip us) → Vals vs us → sp vs H Q E → codeAny (model P w) A (.call (.ref f) args) (CR CX outer P w H s Q E) s
theorem fnG_of {qual x : Str} {params : Arguments} {body : List Stmt} {scope : Scope} {dV kV doc pm cdv ct oc : Value} {an od : Option Addr} {osl : Array (Option Value)} {N : List Str}
    (lk : K.lookup f = some ⟨oc, od, .func (PySem.W.fnOf x qual params body scope dV kV doc pm an cdv ct), osl⟩) (hcd : PySem.W.codeIn K cdv qual = true) (S : FnScope N ps scope) (len : ∀ vs H Q E, sp vs H Q E → vs.length = ps.length)
    (walk : ∀ (A : Around) (outer : List Env) (s : Shared) (H : Hp) (vs : List V) (Q : VK) (E : XK), A.guards = some [] → Room k (A.deeper (envOfC qual scope s.heap.objs.size f cdv)) → sp vs H Q E →
      ∃ t, PSs (cxOf CX P w K mg base N qual scope f cdv A outer s H E) body t ∧ t { nx := fun _ H' => Q .non H', rt := Q } (start N vs) H) :
    FnG P w K mg base CX (k + 1) f (PySem.W.fnOf x qual params body scope dV kV doc pm an cdv ct) ps sp := by
  intro A outer s H args us vs Q E gd room e0 bd r h
  have n1 := len _ _ _ _ h
  have inH : ∀ b o, base.get? b = some o → s.heap.get? b = some o := fun b o e => (e0.bs b o e).1
  have kin : K.In s.heap := e0.mod.kin.keeps inH
  have par : ∀ y ∈ ps.zip us, scope.names.lookup y.1 = some .local ∨ (scope.names.lookup y.1 = some .cell ∧ ((cellsFrom (s.heap.objs.size + 1) scope.names []).lookup y.1).isSome = true) := by
    rintro ⟨y, z⟩ hy
    exact (S.par y (List.of_mem_zip hy).1).imp id fun q => ⟨q, PySem.W.cellsFrom_some _ _ _ (.inl q)⟩
  refine codeAny_call_function room.depth (kin _ _ lk) rfl S.co S.gen rfl (PySem.W.codeRec_of kin hcd) (bd _ _ _ _ (wpAny_newFunctionEnv_cells S.kind par fun env he s1 z => ?_))
  subst he
  refine ⟨(e0.mod.nolimit.keeps inH).keeps z.toInCall.keep, codeAny_func ?_⟩
  obtain ⟨t, body_ok, ends⟩ := walk A outer s H vs Q E gd (room.deeper _) h
  have J := inv_start (CX := CX) (E := E) S room.hd e0 n1 r z
  refine wpAny_mono (body_ok.run [] s1 _ H _ J ends) (fun fl s' q => ?_) fun e s' q => q
  rcases fl with u | _ | _ | _
  all_goals first
    | (obtain ⟨v, σ', H', J', rv, q⟩ := q; exact ⟨v, H', J'.os, J'.bare, J'.base, J'.hok, rv, q⟩)
    | (obtain ⟨σ', H', J', q⟩ := q; exact ⟨V.non, H', J'.os, J'.bare, J'.base, J'.hok, rfl, q⟩)
    | (obtain ⟨_, _, _, q⟩ := q; exact q.elim)
theorem Fun.okG {x qual : Str} {st : Stmt} {fd : FuncData} {N : List Str} (F : Fun K x qual st f fd) (S : FnScope N ps (defScope st)) (len : ∀ vs H Q E, sp vs H Q E → vs.length = ps.length)
    (walk : ∀ (cdv : Value) (A : Around) (outer : List Env) (s : Shared) (H : Hp) (vs : List V) (Q : VK) (E : XK), A.guards = some [] → Room k (A.deeper (envOfC qual (defScope st) s.heap.objs.size f cdv)) → sp vs H Q E →
      ∃ t, PSs (cxOf CX0 P w K mg base N qual (defScope st) f cdv A outer s H E).nox (defBody st) t ∧ t { nx := fun _ H' => Q .non H', rt := Q } (start N vs) H) : FnG P w K mg base CX0 (k + 1) f fd ps sp := by
  obtain ⟨oc, od, kV, doc, pm, an, cdv, ct, osl, rfl, lk, hcd⟩ := F.ex
  refine fnG_of lk hcd S len fun A outer s H vs Q E gd room h => ?_
  obtain ⟨t, a, b⟩ := walk cdv A outer s H vs Q E gd room h
  exact ⟨t, a.nox, b⟩
/-- the claim's call, from a heap in which nothing but the script is tracked -/
theorem core {mb : Str → Option Value} {fd : FuncData} {a : Addr} {x : Str} {s₁ : Shared} {vs : List Value} (kin : K.In s₁.heap) (hns : s₁.heap.Ns mainGlobals mg) (hb : s₁.heap.Ns builtinsNs mb) (hbb : ∀ x : Str, x ≠ "__name__" → mb x = bootBuiltins x)
    (lim : s₁.heap.NoLimit) (gens : s₁.gens = #[]) (ha : s₁.heap.get? a = some { cls := .type "list", data := .seq vs.toArray }) (room : Room k callerA)
    (F : ∀ base : Heap, K.In base → base.Ns mainGlobals mg → FnG P w K mg base CX k f fd [x] sp) (bind : ∀ (s : Shared) (u : Value), BindsTo s fd ⟨[u], []⟩ [(x, u)])
    (none' : ∀ H e s', CX [] H s₁ (fun _ _ _ => False) e s' → False) {H : Hp} (only : Only H) (h : sp [.ref a] H (fun v _ => v = .bl true) fun _ _ _ => False) (hok : HOk P w H s₁.heap) (at_a : ∀ b, H b ≠ none → b = a) (not_K : H a ≠ none → K.lookup a = none) :
    codeAny (model P w) callerA (.call (.ref f) ⟨[.ref a], []⟩) (fun r s' => r = .ok (.ret (.bool true)) ∧ OldK s₁.heap s'.heap ∧ s'.os = s₁.os ∧ AllBare s'.gens) s₁ := by
  have tr : ∀ {b : Addr}, H b ≠ none → H a ≠ none := fun {b} z => at_a b z ▸ z
  have nsI : ∀ {b : Addr} {m : Str → Option Value}, s₁.heap.Ns b m → (hidT s₁.heap H).Ns b m := fun {b m} ⟨o, es, ep, e, d, r⟩ => by
    refine ⟨o, es, ep, hidT_get e ?_, d, r⟩
    by_cases q : H b = none
    · exact q
    · obtain rfl := at_a b q
      rw [ha] at e
      cases e
      cases (show Data.seq vs.toArray _ = Data.dict es ep from d)
  have kinI : K.In (hidT s₁.heap H) := fun b o e => hidT_get (kin b o e) (by
    by_cases q : H b = none
    · exact q
    · obtain rfl := at_a b q
      rw [not_K q] at e
      cases e)
  obtain ⟨mc, lim1, lim2⟩ := lim
  have e0 : Env0 P w K mg (hidT s₁.heap H) callerA [] s₁ H := {
    frames := rfl
    mod := ⟨kinI, nsI hns, ⟨mb, nsI hb, hbb⟩, mc, nsI lim1, lim2⟩
    bs := fun b o e => of_hidT e
    bsz := Nat.le_of_eq (hidT_size _ _)
    funs := trivial
    frf := fun b z => absurd (show b ∈ ([] : List Addr) from z) List.not_mem_nil
    hok := hok
    bare := .of_eq gens }
  have run := F _ kinI (nsI hns) callerA [] s₁ H ⟨[.ref a], []⟩ [.ref a] [.ref a] _ _ rfl room e0 (bind s₁ (.ref a)) (.cons rfl .nil) h
  refine codeAny_mono run fun r s' z => ?_
  rcases r with e | (u | _ | _ | _)
  all_goals first | exact (none' H e s' z).elim | exact (show False from z).elim | skip
  obtain ⟨v, H', os, bare, un, hok', rv, q⟩ := z
  obtain rfl : v = .bl true := q
  cases (show _ = Value.bool true from rv)
  refine ⟨rfl, OldK.of_keep fun b o e => ?_, os, bare⟩
  cases q : H b with
  | none => exact un.keep b o e q (fun z => List.not_mem_nil (show b ∈ ([] : List Addr) from z)) List.not_mem_nil
  | some t =>
    rcases only b with z | ⟨ob, xs, z⟩
    · rw [q] at z
      cases z
    · have before := (hok b _ z).1
      rw [e] at before
      cases before
      exact (hok' b _ (un.frzs b _ _ z)).1
end
/-- the law's own call, from its promise -/
theorem walk_ofG {l : PySem.W.OpenLaw} {n k : Nat} {q : Program} {loose : List Str} {XP : (Str → Option Value) → Heap → Prop} {YP : World → Heap → Prop} {d : DefRec} {K : Params → PySem.W.Frag} {sp : World → Sp} {x : Str}
    (hn : l.most = some n) (hn2 : n ≤ sizeLine) (hdf : d.params.defaults = []) (room : Room k callerA) (hY : ∀ (w : World) (h : Heap), YP w h → (K w.params).In h)
    (F : ∀ (w : World) (mg : Str → Option Value) (fa : Addr) (h : Heap), (K w.params).In h → h.Ns mainGlobals mg → mg d.name = some (.ref fa) →
      ∃ fd : FuncData, (∀ (s : Shared) (u : Value), BindsTo s fd ⟨[u], []⟩ [(x, u)]) ∧ ∀ base : Heap, (K w.params).In base → base.Ns mainGlobals mg → FnG l.prog w (K w.params) mg base CX0 k fa fd [x] (sp w))
    (hsp : ∀ (w : World) (H : Hp) (a : Addr) (ns : List Int), ns.length ≤ n → Only H → SqL (K w.params) H a (ns.map V.int) → sp w [.ref a] H (fun v _ => v = .bl true) fun _ _ _ => False) :
    PySem.W.WalkO q loose XP YP l.row.toRowW d [] (fun f vs => PySem.call f vs) := by
  refine Att.attach_call hn hdf fun w s₀ s₁ mg mb fa o pm cd doc a vs ns G Y _ _ _ hmg obj hints short gens => ?_
  have kin := hY w _ Y
  obtain ⟨fd, bind, hF⟩ := F w mg fa _ kin G.T.g hmg
  have rv := vals_ints hints
  have lz : (ns.map V.int).length ≤ sizeLine := by rw [List.length_map]; exact Nat.le_trans short hn2
  have go : ∀ {H : Hp}, Only H → SqL (K w.params) H a (ns.map V.int) → HOk l.prog w H s₁.heap → (∀ b, H b ≠ none → b = a) → (H a ≠ none → (K w.params).lookup a = none) → _ :=
    fun {H} only seq hok at_a not_K => core kin G.T.g G.T.b G.T.builtins G.T.nolimit gens obj room hF bind (fun _ _ _ z => z) only (hsp w H a ns short only seq) hok at_a not_K
  cases hk : (K w.params).lookup a with
  | some u =>
    have e := kin a u hk
    rw [obj] at e
    cases e
    exact go (H := fun _ => none) (fun _ => .inl rfl) (.inr ⟨_, vs.toArray, _, hk, rfl, rfl, rfl, by rw [List.size_toArray, hints.length]; exact Nat.le_trans short hn2, by simpa using rv⟩)
      (fun b u z => nomatch (show (none : Option HO) = some u from z)) (fun b z => absurd rfl z) fun z => absurd rfl z
  | none =>
    let fz : HO := .frz { cls := .type "list", data := .seq vs.toArray } (.lst (ns.map V.int))
    have at_ : ∀ b, (upd (fun _ => none) a fz) b ≠ none → b = a := fun b z => by
      by_cases hb : b = a
      · exact hb
      · exact absurd (upd_ne hb) z
    refine go (H := upd (fun _ => none) a fz) (fun b => ?_) (.inl (.inr ⟨_, upd_same⟩)) (fun b u z => ?_) at_ fun _ => hk
    · by_cases hb : b = a
      · rw [hb]
        exact .inr ⟨_, _, upd_same⟩
      · exact .inl (upd_ne hb)
    · obtain rfl := at_ b (by rw [z]; exact fun q => nomatch q)
      rw [upd_same] at z
      cases z
      exact ⟨obj, lz, vs, _, rv, obj⟩
end XG

set_option Elab.async false
set_option linter.all false
set_option maxRecDepth 100000
set_option maxHeartbeats 4000000
namespace L2
open PySem PySem.Spec PyProof.Rows
/-! ### what a value shows -/
mutual
/-- v is the datum d in H; nothing of it stands at p -/
inductive Dq (p : Addr) (H : Hp) : V → PyData → Prop
  | non : Dq p H .non .none
  | bl (b : Bool) : Dq p H (.bl b) (.bool b)
  | int (i : Int) : Dq p H (.int i) (.int i)
  | str (x : Str) : Dq p H (.str x) (.str x)
  | lst {a : Addr} {xs : List V} {ds : List PyData} : H a = some (.lst xs) → a ≠ p → a ≠ sysModules → DqAll p H xs ds → Dq p H (.ref a) (.list ds)
  | tup {a : Addr} {xs : List V} {ds : List PyData} : H a = some (.tup xs) → a ≠ p → DqAll p H xs ds → Dq p H (.ref a) (.tuple ds)
  | dct {a : Addr} : H a = some (.dK []) → a ≠ p → Dq p H (.ref a) (.dict [])
inductive DqAll (p : Addr) (H : Hp) : List V → List PyData → Prop
  | nil : DqAll p H [] []
  | cons {v : V} {vs : List V} {d : PyData} {ds : List PyData} : Dq p H v d → DqAll p H vs ds → DqAll p H (v :: vs) (d :: ds)
end
mutual
theorem Dq.ex {p : Addr} {H H' : Hp} (e : ∀ b o, H b = some o → b ≠ p → H' b = some o) : ∀ {v : V} (d : PyData), Dq p H v d → Dq p H' v d
  | _, .none, .non => .non
  | _, .bool b, .bl _ => .bl b
  | _, .int i, .int _ => .int i
  | _, .str x, .str _ => .str x
  | _, .list _, .lst h m n a => .lst (e _ _ h m) m n (DqAll.ex e _ a)
  | _, .tuple _, .tup h m a => .tup (e _ _ h m) m (DqAll.ex e _ a)
  | _, .dict _, .dct h m => .dct (e _ _ h m) m
theorem DqAll.ex {p : Addr} {H H' : Hp} (e : ∀ b o, H b = some o → b ≠ p → H' b = some o) : ∀ {vs : List V} (ds : List PyData), DqAll p H vs ds → DqAll p H' vs ds
  | _, [], .nil => .nil
  | _, _ :: _, .cons h t => .cons (Dq.ex e _ h) (DqAll.ex e _ t)
end
section
variable {X : Cx} {pins : List (Addr × Obj)} {σ : St} {H : Hp} {s : Shared} {q : Addr}
mutual
theorem Dq.reads (I : Inv X pins σ H s) : ∀ (d : PyData) (v : V) (u : Value), Dq q H v d → RelV v u → ∃ as, Reads s.heap u d as ∧ sysModules ∉ as
  | .none, _, _, h, r => by
    cases h
    cases r
    exact ⟨_, Reads.none, List.not_mem_nil⟩
  | .bool b, _, _, h, r => by
    cases h
    cases r
    exact ⟨_, Reads.bool b, List.not_mem_nil⟩
  | .int i, _, _, h, r => by
    cases h
    obtain ⟨t, rfl⟩ := r
    exact ⟨_, Reads.int i t, List.not_mem_nil⟩
  | .str x, _, _, h, r => by
    cases h
    obtain ⟨t, rfl⟩ := r
    exact ⟨_, Reads.str x t, List.not_mem_nil⟩
  | .list ds, _, _, h, r => by
    cases h with
    | lst hs _ n ha =>
      cases r
      obtain ⟨_, its, m, rv, g⟩ := (show ObjOk X.prog X.w H s.heap _ (.lst _) from I.hok _ _ hs)
      obtain ⟨as, hr, hn⟩ := DqAll.reads I ds _ its ha rv
      exact ⟨_, Reads.list g rfl rfl (by simpa using hr), fun z => by
        rcases List.mem_cons.mp z with z | z
        · exact n z.symm
        · exact hn z⟩
  | .tuple ds, _, _, h, r => by
    cases h with
    | tup hs _ ha =>
      cases r
      obtain ⟨_, its, rv, o, g, c, n, dt⟩ := (show ObjOk X.prog X.w H s.heap _ (.tup _) from I.hok _ _ hs)
      obtain ⟨as, hr, hn⟩ := DqAll.reads I ds _ its ha rv
      exact ⟨_, Reads.tuple g c dt (by simpa using hr), hn⟩
  | .dict [], _, _, h, r => by
    cases h with
    | @dct a hs _ =>
      cases r
      obtain ⟨_, ne, vs, rel, o, es, ep, g, ty, dt, hk⟩ := dk_of I.hok hs
      cases rel
      obtain ⟨_, prs, _⟩ := hk
      have z : es.toList = [] := by
        cases h0 : es.toList with
        | nil => rfl
        | cons a r =>
          rw [h0] at prs
          cases prs
      have z2 : es = #[] := Array.toList_inj.mp z
      subst z2
      exact ⟨_, Reads.dict (as := []) (bs := []) g ty.1 dt .nil .nil, fun q => by
        have q' : sysModules = a := by simpa using q
        exact absurd q'.symm (beq_eq_false_iff_ne.mp ne)⟩
  | .dict (_ :: _), _, _, h, _ => by cases h
theorem DqAll.reads (I : Inv X pins σ H s) : ∀ (ds : List PyData) (vs : List V) (us : List Value), DqAll q H vs ds → Vals vs us → ∃ as, ReadsAll s.heap us ds as ∧ sysModules ∉ as
  | [], _, _, h, r => by
    cases h
    cases r
    exact ⟨_, ReadsAll.nil, List.not_mem_nil⟩
  | d :: ds, _, _, h, r => by
    cases h with
    | cons h1 h2 =>
      cases r with
      | cons r1 r2 =>
        obtain ⟨as, a1, n1⟩ := Dq.reads I d _ _ h1 r1
        obtain ⟨bs, a2, n2⟩ := DqAll.reads I ds _ _ h2 r2
        exact ⟨_, ReadsAll.cons a1 a2, fun z => (List.mem_append.mp z).elim n1 n2⟩
end
/-- repr(v) -/
def rRepr : List V → Hp → VK → Prop := fun xs H Q => ∃ (p : Addr) (v : V) (d : PyData), xs = [v] ∧ Dq p H v d ∧ d.showable = true ∧ d.depth ≤ 60 ∧ d.shown.length ≤ 100000 ∧ Q (.str d.shown) H
theorem call_reprG (hg : X.A.guards = some []) (hu : X.A.units + 64 < cLine) : CallR X (.builtin "repr") rRepr := by
  intro pins s σ H xs us Q I r h
  obtain ⟨p, v, d, rfl, hd, sh, dp, sz, q⟩ := h
  obtain ⟨u, rfl, ru⟩ := vals1 r
  have sz' : d.shown.length ≤ sizeLine := by rw [sizeLine_eq]; omega
  have by_ref : ∀ a : Addr, u = .ref a → wpAny (model X.prog X.w) X.A (call (.builtin "repr") [u]) (EP X pins σ Q) X.xe s := by
    rintro a rfl
    obtain ⟨as, rd, nm⟩ := hd.reads I d v _ ru
    exact repr_of_reads' rd sh (fun _ => nm) hg (by omega) (fun _ _ z => z) (fun h' u tk hk => ⟨.str _, H, I.kept (t' := tk) hk, ⟨u, rfl⟩, q⟩) sz'
  cases hd with
  | non =>
    cases ru
    exact PySem.P.repr_of_none ⟨.str _, H, I.tok _, ⟨_, rfl⟩, q⟩
  | bl b =>
    cases ru
    refine PySem.P.repr_of_bool ⟨.str _, H, I.tok _, ⟨_, rfl⟩, ?_⟩
    cases b <;> exact q
  | int i =>
    obtain ⟨t, rfl⟩ := ru
    exact PySem.P.repr_of_int (of_decide_eq_true sh) ⟨.str _, H, I.tok _, ⟨_, rfl⟩, q⟩
  | str x =>
    obtain ⟨t, rfl⟩ := ru
    exact PySem.P.repr_of_str ⟨.str _, H, I.tok _, ⟨_, rfl⟩, q⟩ (hsz := sz')
  | lst _ _ _ _ => exact by_ref _ ru
  | tup _ _ _ => exact by_ref _ ru
  | dct _ _ => exact by_ref _ ru
/-- [a, b, ..], told that it is not the table of modules -/
def tLstN (t : TA) : TE := fun σ H Q => t σ H fun xs H1 => xs.length ≤ sizeLine ∧ ∀ p, H1 p = none → p ≠ sysModules → Q (.ref p) (upd H1 p (.lst xs))
theorem pe_lstN {es : List Expr} {t : TA} {pos : Pos} (h : PA X es t) : PE X (.List es pos) (tLstN t) := by
  refine ⟨fun pins s σ H Q I hq => wpAny_List_spliced (thn (h.run pos pins s σ H _ I hq) fun us s1 ⟨xs, H1, I1, r, z, q⟩ => ⟨r.length ▸ z, ?_⟩)⟩
  have big : sysModules < s1.heap.objs.size := I1.big
  refine ⟨.ref s1.heap.objs.size, _, I1.laid (t' := s1.toks) (fun b u e => Heap.get?_push_of_some _ e) (Nat.le_refl _) ?_, rfl, q _ (I1.hok.fresh (Nat.le_refl _)) (Nat.ne_of_gt big)⟩
  exact ⟨z, us, 0, r, Heap.get?_push_size _ rfl⟩
variable {C : Addr} {x : Str} {p pos : Pos} {e : Expr} {es : List Expr} {t : TA} {bmB : List Value} {B newId initId : String}
/-- C(), C an own exception class without __init__ -/
def tExc0 (C : Addr) : TE := fun _ H Q => ∀ a, H a = none → Q (.ref a) (upd H a (exo a C none))
theorem pe_excv0 (F : ExcBaseFacts B newId initId bmB) (q : PySem.W.excIn X.K C bmB newId = true) (gC : X.mg x = some (.ref C)) (kC : PySem.W.keepIn X.K (.ref C) = true) (hg : Gl X x) (hdb : (x == ("__debug__" : Str)) = false := by decide) :
    PE X (.Call (.Name x p) [] [] pos) (tExc0 C) := by
  refine ⟨fun pins s σ H Q I h => wpAny_Call_Name_kw (ld_glob I hg gC ?_ hdb)⟩
  exact PySem.W.callWith_K0 I.kIn kC (run_exc (us := []) F q I (by decide) h)
/-- C(e) of such a class -/
def tExc1 (C : Addr) (te : TE) : TE := fun σ H Q => te σ H fun _ H1 => ∀ a, H1 a = none → Q (.ref a) (upd H1 a (exo a C none))
theorem pe_excv1 {te : TE} (F : ExcBaseFacts B newId initId bmB) (q : PySem.W.excIn X.K C bmB newId = true) (gC : X.mg x = some (.ref C)) (kC : PySem.W.keepIn X.K (.ref C) = true) (hg : Gl X x) (he : PE X e te)
    (hs : starEach [e] X.env = (false, eval e X.env) :: starEach [] X.env := by rfl) (hdb : (x == ("__debug__" : Str)) = false := by decide) : PE X (.Call (.Name x p) [e] [] pos) (tExc1 C te) := by
  refine ⟨fun pins s σ H Q I h => wpAny_Call_Name_kw (ld_glob I hg gC ?_ hdb)⟩
  refine PySem.W.callWith_K (h₀ := X.base) I.ok.mod.kin kC ?_ hs (by rfl)
  rw [hs]
  show wpAny _ _ (spliced ((false, eval e X.env) :: backTo pos (starEach [] X.env))) _ _ s
  refine Calls.spliced_cons (thn (he.run pins s σ H _ I h) fun u s1 ⟨v, H1, I1, r1, q1⟩ => Calls.spliced_nil ⟨I1.kIn, ?_⟩)
  exact run_exc (us := [u]) F q I1 (by show 1 ≤ 1000; decide) q1
end
/-! ### __init__(self, f): self.f = f -/
def spInit1 (K : PySem.W.Frag) (f : Str) : Sp := fun vs H Q _ => ∃ (a C : Addr) (y : V), vs = [.ref a, y] ∧ OexC K C ∧ PySem.W.findIn K (.ref C) f = some none ∧ H a = some (exo a C none) ∧
  ∀ d, H d = none → d ≠ a → Q .non (upd (upd H d (exd d [(f, y)])) a (exo a C (some d)))
def spInit2 (K : PySem.W.Frag) (f g : Str) : Sp := fun vs H Q _ => ∃ (a C : Addr) (y z : V), vs = [.ref a, y, z] ∧ OexC K C ∧ PySem.W.findIn K (.ref C) f = some none ∧ PySem.W.findIn K (.ref C) g = some none ∧ H a = some (exo a C none) ∧
  ∀ d, H d = none → d ≠ a → Q .non (upd (upd (upd H d (exd d [(f, y)])) a (exo a C (some d))) d (exd d [(g, z), (f, y)]))
theorem vis_of {N Ps : List Str} {sc : Scope} (S : FnScope N Ps sc) {x : Str} (h : x ∈ Ps) : Vis sc x := by
  rcases S.par x h with e | e
  · exact Or.inl e
  · exact Or.inr (Or.inl e)
section
variable {P : Program} {w : World} {K : PySem.W.Frag} {mg : Str → Option Value} {base : Heap} {fI : Addr} {fd : FuncData} {qual f g : Str} {st : Stmt} {q1 q2 q3 q4 r1 r2 r3 r4 : Pos}
theorem ok_init1 (F : Fun K "__init__" qual st fI fd) (hb : defBody st = [.Assign [.Attribute (.Name "self" q1) f q2] (.Name f q3) q4]) (S : FnScope ["self", f] ["self", f] (defScope st))
    (hs : ∀ env : Env, swapsWith (.Name f q3) (some (.Attribute (.Name "self" q1) f q2)) q4.line env = pure false) (h1 : (f == ("__debug__" : Str)) = false) (h2 : (f == ("__classdict__" : Str)) = false) : FnOk P w K mg base CX0 1 fI fd ["self", f] (spInit1 K f) := by
  refine F.ok S (fun vs H Q E h => ?_) (fun cdv A outer s H vs Q E hr h => ?_)
  · obtain ⟨a, C, y, rfl, _⟩ := h
    rfl
  · obtain ⟨a, C, y, rfl, T, hf, ea, k⟩ := h
    rw [hb]
    refine ⟨_, pss_one (ps_ost (pe_var (i := 0) rfl (vis_of S (by simp))) (pe_var (i := 1) rfl (vis_of S (by simp)) h1 h2) (hs _)), ?_⟩
    exact ⟨_, rfl, _, rfl, a, C, rfl, T, hf, .inl ⟨ea, k⟩⟩
theorem ok_init2 (F : Fun K "__init__" qual st fI fd) (hb : defBody st = [.Assign [.Attribute (.Name "self" q1) f q2] (.Name f q3) q4, .Assign [.Attribute (.Name "self" r1) g r2] (.Name g r3) r4]) (S : FnScope ["self", f, g] ["self", f, g] (defScope st))
    (hs : ∀ env : Env, swapsWith (.Name f q3) (some (.Attribute (.Name "self" q1) f q2)) q4.line env = pure false) (hs2 : ∀ env : Env, swapsWith (.Name g r3) (some (.Attribute (.Name "self" r1) g r2)) r4.line env = pure false)
    (h1 : (f == ("__debug__" : Str)) = false) (h2 : (f == ("__classdict__" : Str)) = false) (h3 : (g == ("__debug__" : Str)) = false) (h4 : (g == ("__classdict__" : Str)) = false) : FnOk P w K mg base CX0 1 fI fd ["self", f, g] (spInit2 K f g) := by
  refine F.ok S (fun vs H Q E h => ?_) (fun cdv A outer s H vs Q E hr h => ?_)
  · obtain ⟨a, C, y, z, rfl, _⟩ := h
    rfl
  · obtain ⟨a, C, y, z, rfl, T, hf, hg, ea, k⟩ := h
    rw [hb]
    refine ⟨_, pss_cons (ps_ost (pe_var (i := 0) rfl (vis_of S (by simp))) (pe_var (i := 1) rfl (vis_of S (by simp)) h1 h2) (hs _))
      (pss_one (ps_ost (pe_var (i := 0) rfl (vis_of S (by simp))) (pe_var (i := 2) rfl (vis_of S (by simp)) h3 h4) (hs2 _))), ?_⟩
    refine ⟨_, rfl, _, rfl, a, C, rfl, T, hf, .inl ⟨ea, fun d hd ne => ?_⟩⟩
    exact ⟨_, rfl, _, rfl, a, C, rfl, T, hg, .inr ⟨d, [(f, y)], upd_same, by rw [upd_ne ne, upd_same], (by show 1 ≤ 900; decide), k d hd ne⟩⟩
/-- how a call with keywords binds: no defaults -/
theorem Fun.kbn {x : Str} {ps ks : List Str} {n : Nat} {gv : List Value → List Value → List Value} {gV : List V → List V → List V} (F : Fun K x qual st fI fd)
    (hrel : ∀ {vs : List V} {us : List Value} {zs : List V} {ws : List Value}, Vals vs us → Vals zs ws → Vals (gV vs zs) (gv us ws))
    (h : ∀ (kV doc pm : Value) (an : Option Addr) (cdv ct : Value) (us ws : List Value), us.length = n → ws.length = ks.length → bindArgs (PySem.W.fnOf x qual (defArgs st) (defBody st) (defScope st) .none kV doc pm an cdv ct) ⟨us, ks.zip ws⟩ = pure (ps.zip (gv us ws))) : KBn K fd ps n ks gv gV := by
  obtain ⟨oc, od, kV, doc, pm, an, cdv, ct, osl, rfl, lk, hcd⟩ := F.ex
  exact ⟨fun s us ws X l1 l2 => .of_eq (h kV doc pm an cdv ct us ws l1 l2), hrel⟩
end
end L2

set_option Elab.async false
set_option linter.all false
set_option maxRecDepth 100000
set_option maxHeartbeats 4000000
/-! What an expression leaves, by a property that lasts. -/
namespace EvP
open PySem L2
def Ex (H H' : Hp) : Prop := ∀ a o, H a = some o → H' a = some o
theorem Ex.refl (H : Hp) : Ex H H := fun _ _ h => h
theorem Ex.trans {H H1 H2 : Hp} (a : Ex H H1) (b : Ex H1 H2) : Ex H H2 := fun x o h => b x o (a x o h)
theorem Ex.new {H : Hp} {p : Addr} {o : HO} (h : H p = none) : Ex H (upd H p o) := fun a u e => by rw [upd_ne (ne_of_none e h)]; exact e
theorem Ex.back {H H' : Hp} (e : Ex H H') {p : Addr} (h : H' p = none) : H p = none := by
  cases h1 : H p with
  | none => rfl
  | some o =>
    rw [e p o h1] at h
    cases h
/-- a property of a value that lasts while objects are only added -/
structure PR where
  R : V → Hp → Prop
  mono : ∀ v H H', Ex H H' → R v H → R v H'
/-- te gives a value with R, and only adds -/
def Gives (te : TE) (σ : St) (H : Hp) (P : PR) : Prop := ∀ H1, Ex H H1 → ∀ Q : VK, (∀ v H2, Ex H1 H2 → P.R v H2 → Q v H2) → te σ H1 Q
inductive All2 (H : Hp) : List PR → List V → Prop
  | nil : All2 H [] []
  | cons {P : PR} {Ps : List PR} {v : V} {vs : List V} : P.R v H → All2 H Ps vs → All2 H (P :: Ps) (v :: vs)
theorem All2.ex {H H' : Hp} (e : Ex H H') : ∀ {Ps : List PR} {vs : List V}, All2 H Ps vs → All2 H' Ps vs
  | _, _, .nil => .nil
  | _, _, .cons h t => .cons (PR.mono _ _ _ _ e h) (All2.ex e t)
theorem All2.length {H : Hp} : ∀ {Ps : List PR} {vs : List V}, All2 H Ps vs → vs.length = Ps.length
  | _, _, .nil => rfl
  | _, _, .cons _ t => congrArg Nat.succ (All2.length t)
theorem All2.append {H : Hp} : ∀ {Ps Qs : List PR} {vs ws : List V}, All2 H Ps vs → All2 H Qs ws → All2 H (Ps ++ Qs) (vs ++ ws)
  | _, _, _, _, .nil, k => k
  | _, _, _, _, .cons h t, k => .cons h (All2.append t k)
theorem All2.get {H : Hp} : ∀ {Ps : List PR} {vs : List V} {i : Nat} {P : PR}, All2 H Ps vs → Ps[i]? = some P → ∃ v, vs[i]? = some v ∧ P.R v H
  | _, _, _, _, .nil, e => by simp at e
  | _, _, 0, _, .cons h _, e => by
    simp at e
    subst e
    exact ⟨_, rfl, h⟩
  | _, _, i + 1, _, .cons _ t, e => by
    obtain ⟨v, h1, h2⟩ := All2.get (i := i) t (by simpa using e)
    exact ⟨v, by simpa using h1, h2⟩
def GivesA (ta : TA) (σ : St) (H : Hp) (Ps : List PR) : Prop := ∀ H1, Ex H H1 → ∀ Q : List V → Hp → Prop, (∀ vs H2, Ex H1 H2 → All2 H2 Ps vs → Q vs H2) → ta σ H1 Q
/-- this very value -/
def is (v : V) : PR := ⟨fun u _ => u = v, fun _ _ _ _ h => h⟩
/-- a tuple of such -/
def tup (Ps : List PR) : PR := ⟨fun u H => ∃ a vs, u = .ref a ∧ H a = some (.tup vs) ∧ All2 H Ps vs, fun _ _ _ e ⟨a, vs, h1, h2, h3⟩ => ⟨a, vs, h1, e _ _ h2, h3.ex e⟩⟩
/-- a list of such, new over H0 -/
def lst (H0 : Hp) (Ps : List PR) : PR := ⟨fun u H => ∃ a vs, u = .ref a ∧ H a = some (.lst vs) ∧ H0 a = none ∧ All2 H Ps vs, fun _ _ _ e ⟨a, vs, h1, h2, h0, h3⟩ => ⟨a, vs, h1, e _ _ h2, h0, h3.ex e⟩⟩
/-- the same, and not the table of modules -/
def lstN (H0 : Hp) (Ps : List PR) : PR := ⟨fun u H => ∃ a vs, u = .ref a ∧ H a = some (.lst vs) ∧ H0 a = none ∧ a ≠ sysModules ∧ All2 H Ps vs, fun _ _ _ e ⟨a, vs, h1, h2, h0, hn, h3⟩ => ⟨a, vs, h1, e _ _ h2, h0, hn, h3.ex e⟩⟩
/-- an exception of the class at C with these fields -/
def err (C : Addr) (fs : List (Str × V)) : PR := ⟨fun u H => ∃ a, u = .ref a ∧ ErrAt H a C fs, fun _ _ _ e ⟨a, h1, h2⟩ => ⟨a, h1, h2.ex e⟩⟩
section
variable {K : PySem.W.Frag} {σ : St} {H : Hp} {te tf : TE} {ta tb : TA} {P : PR} {Ps Qs : List PR} {v : V} {i : Nat} {C fI : Addr} {f g : Str} {x y z : V}
theorem var (h : σ[i]? = some (some v)) : Gives (tVar i) σ H (is v) := fun H1 _ _ q => ⟨v, h, q _ _ (Ex.refl H1) rfl⟩
theorem cst : Gives (tC v) σ H (is v) := fun H1 _ _ q => q _ _ (Ex.refl H1) rfl
theorem nil : GivesA tNil σ H [] := fun H1 _ _ q => q _ _ (Ex.refl H1) .nil
theorem cons (h : Gives te σ H P) (t : GivesA ta σ H Ps) : GivesA (tCons te ta) σ H (P :: Ps) := fun H1 e Q q =>
  h H1 e _ fun v H2 e2 hv => t H2 (e.trans e2) _ fun vs H3 e3 hs => q _ _ (e2.trans e3) (.cons (P.mono _ _ _ e3 hv) hs)
theorem tuple (h : GivesA ta σ H Ps) (hl : Ps.length ≤ 1000) : Gives (tTup ta) σ H (tup Ps) := fun H1 e Q q =>
  h H1 e _ fun vs H2 e2 hs => ⟨by rw [hs.length, sizeLine_eq]; omega, fun p hp => q _ _ (e2.trans (Ex.new hp)) ⟨p, vs, rfl, upd_same, hs.ex (Ex.new hp)⟩⟩
theorem list {H0 : Hp} (e0 : Ex H0 H) (h : GivesA ta σ H Ps) (hl : Ps.length ≤ 1000) : Gives (tLst ta) σ H (lst H0 Ps) := fun H1 e Q q =>
  h H1 e _ fun vs H2 e2 hs => ⟨by rw [hs.length, sizeLine_eq]; omega, fun p hp => q _ _ (e2.trans (Ex.new hp)) ⟨p, vs, rfl, upd_same, ((e0.trans e).trans e2).back hp, hs.ex (Ex.new hp)⟩⟩
theorem listN {H0 : Hp} (e0 : Ex H0 H) (h : GivesA ta σ H Ps) (hl : Ps.length ≤ 1000) : Gives (tLstN ta) σ H (lstN H0 Ps) := fun H1 e Q q =>
  h H1 e _ fun vs H2 e2 hs => ⟨by rw [hs.length, sizeLine_eq]; omega, fun p hp hn => q _ _ (e2.trans (Ex.new hp)) ⟨p, vs, rfl, upd_same, ((e0.trans e).trans e2).back hp, hn, hs.ex (Ex.new hp)⟩⟩
/-- xs + ys, both new -/
theorem cat {H0 : Hp} (e0 : Ex H0 H) (h : Gives te σ H (lst H0 Ps)) (k : Gives tf σ H (lst H0 Qs)) (hl : Ps.length + Qs.length ≤ 1000) : Gives (tOp rCat te tf) σ H (lst H0 (Ps ++ Qs)) := fun H1 e Q q => by
  refine h H1 e _ fun v H2 e2 hv => k H2 (e.trans e2) _ fun u H3 e3 hu => ?_
  obtain ⟨a, vs, rfl, ha, na, va⟩ := (lst H0 Ps).mono _ _ _ e3 hv
  obtain ⟨b, ws, rfl, hb, nb, vb⟩ := hu
  refine ⟨a, b, vs, ws, rfl, rfl, ha, hb, by rw [va.length, vb.length, sizeLine_eq]; omega, fun p hp => ?_⟩
  exact q _ _ ((e2.trans e3).trans (Ex.new hp)) ⟨p, _, rfl, upd_same, (((e0.trans e).trans e2).trans e3).back hp, (va.append vb).ex (Ex.new hp)⟩
theorem varP (h : σ[i]? = some (some v)) (hp : P.R v H) : Gives (tVar i) σ H P := fun H1 e _ q => ⟨v, h, q _ _ (Ex.refl H1) (P.mono _ _ _ e hp)⟩
/-- C(e): the one field -/
theorem err1 {gV : List V → List V → List V} (T : OexC K C) (hf : PySem.W.findIn K (.ref C) f = some none) (h : Gives te σ H (is y)) (hg : ∀ a u, gV [.ref a, u] [] = [.ref a, u]) : Gives (tMkV C 1 0 (spInit1 K f) gV E0 (tCons te tNil) tNil) σ H (err C [(f, y)]) := fun H1 e Q q =>
  h H1 e _ fun v H2 e2 hv => ⟨rfl, rfl, fun a ha => by
    rw [hg, show v = y from hv]
    refine ⟨a, C, y, rfl, T, hf, upd_same, fun d hd ne => ⟨rfl, q _ _ (e2.trans ?_) ⟨a, rfl, .inr ⟨d, upd_same, by rw [upd_ne ne, upd_same]⟩⟩⟩⟩
    have hd' : H2 d = none := by rw [upd_ne ne] at hd; exact hd
    intro b o z
    rw [upd_ne (ne_of_none z ha), upd_ne (ne_of_none z hd'), upd_ne (ne_of_none z ha)]
    exact z⟩
/-- C(f = e) -/
theorem err1K {gV : List V → List V → List V} (T : OexC K C) (hf : PySem.W.findIn K (.ref C) f = some none) (h : Gives te σ H (is y)) (hg : ∀ a u, gV [.ref a] [u] = [.ref a, u]) : Gives (tMkV C 0 1 (spInit1 K f) gV E0 tNil (tCons te tNil)) σ H (err C [(f, y)]) := fun H1 e Q q =>
  h H1 e _ fun v H2 e2 hv => ⟨rfl, rfl, fun a ha => by
    rw [hg, show v = y from hv]
    refine ⟨a, C, y, rfl, T, hf, upd_same, fun d hd ne => ⟨rfl, q _ _ (e2.trans ?_) ⟨a, rfl, .inr ⟨d, upd_same, by rw [upd_ne ne, upd_same]⟩⟩⟩⟩
    have hd' : H2 d = none := by rw [upd_ne ne] at hd; exact hd
    intro b o z
    rw [upd_ne (ne_of_none z ha), upd_ne (ne_of_none z hd'), upd_ne (ne_of_none z ha)]
    exact z⟩
theorem init2_end {H1 H2 : Hp} {Q : VK} {a d : Addr} (e : Ex H1 H2) (ha : H2 a = none) (hd : upd H2 a (exo a C none) d = none) (ne : d ≠ a) (q : ∀ v H3, Ex H1 H3 → (err C [(g, z), (f, y)]).R v H3 → Q v H3) :
    Q (.ref a) (upd (upd (upd (upd H2 a (exo a C none)) d (exd d [(f, y)])) a (exo a C (some d))) d (exd d [(g, z), (f, y)])) := by
  have hd' : H2 d = none := by rw [upd_ne ne] at hd; exact hd
  refine q _ _ (e.trans fun b o w => ?_) ⟨a, rfl, .inr ⟨d, by rw [upd_ne ne.symm, upd_same], upd_same⟩⟩
  rw [upd_ne (ne_of_none w hd'), upd_ne (ne_of_none w ha), upd_ne (ne_of_none w hd'), upd_ne (ne_of_none w ha)]
  exact w
/-- C(f = e, g = e') in the written order of the two -/
theorem err2K {gV : List V → List V → List V} (T : OexC K C) (hf : PySem.W.findIn K (.ref C) f = some none) (hg0 : PySem.W.findIn K (.ref C) g = some none) (h : Gives te σ H (is z)) (k : Gives tf σ H (is y))
    (hg : ∀ a u w, gV [.ref a] [u, w] = [.ref a, w, u]) : Gives (tMkV C 0 2 (spInit2 K f g) gV E0 tNil (tCons te (tCons tf tNil))) σ H (err C [(g, z), (f, y)]) := fun H1 e Q q =>
  h H1 e _ fun v H2 e2 hv => k H2 (e.trans e2) _ fun u H3 e3 hu => ⟨rfl, rfl, fun a ha => by
    rw [hg, show v = z from hv, show u = y from hu]
    exact ⟨a, C, y, z, rfl, T, hf, hg0, upd_same, fun d hd ne => ⟨rfl, init2_end (e2.trans e3) ha hd ne q⟩⟩⟩
/-- C(e, g = e') -/
theorem err2P {gV : List V → List V → List V} (T : OexC K C) (hf : PySem.W.findIn K (.ref C) f = some none) (hg0 : PySem.W.findIn K (.ref C) g = some none) (h : Gives te σ H (is y)) (k : Gives tf σ H (is z))
    (hg : ∀ a u w, gV [.ref a, u] [w] = [.ref a, u, w]) : Gives (tMkV C 1 1 (spInit2 K f g) gV E0 (tCons te tNil) (tCons tf tNil)) σ H (err C [(g, z), (f, y)]) := fun H1 e Q q =>
  h H1 e _ fun v H2 e2 hv => k H2 (e.trans e2) _ fun u H3 e3 hu => ⟨rfl, rfl, fun a ha => by
    rw [hg, show v = y from hv, show u = z from hu]
    exact ⟨a, C, y, z, rfl, T, hf, hg0, upd_same, fun d hd ne => ⟨rfl, init2_end (e2.trans e3) ha hd ne q⟩⟩⟩
theorem err0 : Gives (tExc0 C) σ H (err C []) := fun H1 _ Q q a ha => q _ _ (Ex.new ha) ⟨a, rfl, .inl ⟨rfl, upd_same⟩⟩
variable {u : TS} {D : Ends}
theorem st_set (h : Gives te σ H P) (k : ∀ v H1, Ex H H1 → P.R v H1 → u D (σ.set i (some v)) H1) : tSeq (tAsg te (gName i)) u D σ H := h H (Ex.refl H) _ k
theorem go {Q : VK} (h : Gives te σ H P) (k : ∀ v H1, Ex H H1 → P.R v H1 → Q v H1) : te σ H Q := h H (Ex.refl H) _ k
theorem st_ret (h : Gives te σ H P) (k : ∀ v H1, Ex H H1 → P.R v H1 → D.rt v H1) : tRet te D σ H := h H (Ex.refl H) _ k
end
end EvP

set_option Elab.async false
set_option linter.all false
set_option maxRecDepth 100000
set_option maxHeartbeats 4000000
/-! Whole numbers from 0 on and their texts. -/
namespace Dg
open PySem PySem.NumText
/-- the signs of a number -/
def dl (n : Nat) : List Nat := (Nat.toDigits 10 n).map Char.toNat
theorem dc : ∀ d, d < 10 → (Nat.digitChar d).toNat = 48 + d := by decide
theorem dl_lt {n : Nat} (h : n < 10) : dl n = [48 + n] := by
  unfold dl
  rw [Nat.toDigits_of_lt_base h]
  exact congrArg (fun x => [x]) (dc n h)
theorem dl_ge {n : Nat} (h : 10 ≤ n) : dl n = dl (n / 10) ++ [48 + n % 10] := by
  unfold dl
  rw [Nat.toDigits_of_base_le (by decide) h, List.map_append]
  exact congrArg (fun x => _ ++ [x]) (dc _ (Nat.mod_lt _ (by decide)))
theorem dl_ten {v d : Nat} (hv : 0 < v) (hd : d < 10) : dl (v * 10 + d) = dl v ++ [48 + d] := by
  rw [dl_ge (by omega), show (v * 10 + d) / 10 = v by omega, show (v * 10 + d) % 10 = d by omega]
theorem dl_ne (n : Nat) : dl n ≠ [] := by
  intro h
  exact Nat.toDigits_ne_nil (List.map_eq_nil_iff.mp h)
/-- k signs of a number -/
def pad : Nat → Nat → List Nat
  | 0, _ => []
  | k + 1, n => pad k (n / 10) ++ [48 + n % 10]
theorem pad_len : ∀ k n, (pad k n).length = k
  | 0, _ => rfl
  | k + 1, n => by
    show (pad k (n / 10) ++ _).length = _
    rw [List.length_append, pad_len k]
    rfl
theorem pad_zero : ∀ k, pad k 0 = List.replicate k 48
  | 0 => rfl
  | k + 1 => by
    show pad k (0 / 10) ++ [48] = _
    rw [show 0 / 10 = 0 from rfl, pad_zero k, List.replicate_succ']
/-- a text of at most k signs, filled up -/
theorem pad_dl : ∀ (k n : Nat), n < 10 ^ (k + 1) → (dl n).length ≤ k + 1 ∧ List.replicate (k + 1 - (dl n).length) 48 ++ dl n = pad (k + 1) n
  | 0, n, h => by
    have h' : n < 10 := h
    rw [dl_lt h']
    refine ⟨Nat.le_refl _, ?_⟩
    show [48 + n] = [48 + n % 10]
    rw [Nat.mod_eq_of_lt h']
  | k + 1, n, h => by
    by_cases c : n < 10
    · rw [dl_lt c]
      refine ⟨by show 1 ≤ _; omega, ?_⟩
      show List.replicate (k + 1 + 1 - 1) 48 ++ [48 + n] = pad (k + 1) (n / 10) ++ [48 + n % 10]
      rw [Nat.mod_eq_of_lt c, show n / 10 = 0 by omega, pad_zero]
      rfl
    · obtain ⟨l, e⟩ := pad_dl k (n / 10) (by rw [Nat.pow_succ] at h; omega)
      rw [dl_ge (by omega), List.length_append]
      refine ⟨by show (dl (n / 10)).length + 1 ≤ _; omega, ?_⟩
      show List.replicate (k + 1 + 1 - ((dl (n / 10)).length + 1)) 48 ++ (dl (n / 10) ++ _) = pad (k + 1) (n / 10) ++ [48 + n % 10]
      rw [← e, List.append_assoc, show k + 1 + 1 - ((dl (n / 10)).length + 1) = k + 1 - (dl (n / 10)).length by omega]
theorem dl_pad : ∀ (k q r : Nat), 0 < q → r < 10 ^ k → dl (q * 10 ^ k + r) = dl q ++ pad k r
  | 0, q, r, _, hr => by
    have : r = 0 := by simpa using hr
    subst this
    show dl (q * 1 + 0) = dl q ++ []
    rw [List.append_nil, Nat.mul_one, Nat.add_zero]
  | k + 1, q, r, hq, hr => by
    have e : q * 10 ^ (k + 1) + r = (q * 10 ^ k + r / 10) * 10 + r % 10 := by
      rw [Nat.pow_succ, ← Nat.mul_assoc]
      omega
    have hp : 0 < q * 10 ^ k := Nat.mul_pos hq (Nat.pow_pos (by decide))
    rw [e, dl_ten (by omega) (Nat.mod_lt _ (by decide)), dl_pad k q (r / 10) hq (by rw [Nat.pow_succ] at hr; omega), List.append_assoc]
    rfl
theorem val_snoc (cs : List Nat) (c : Nat) : digitsVal (cs ++ [c]) = digitsVal cs * 10 + (c - 48) := by
  unfold digitsVal
  rw [List.foldl_append]
  rfl
theorem val_from : ∀ (cs : List Nat) (a : Nat), cs.foldl (fun acc c => acc * 10 + (c - 48)) a = a * 10 ^ cs.length + digitsVal cs
  | [], a => by show a = a * 1 + 0; omega
  | c :: cs, a => by
    rw [List.foldl_cons, val_from cs]
    unfold digitsVal
    rw [List.foldl_cons, val_from cs (0 * 10 + (c - 48)), List.length_cons, Nat.pow_succ, Nat.zero_mul, Nat.zero_add, Nat.add_mul, Nat.mul_assoc, Nat.mul_comm 10]
    unfold digitsVal
    omega
theorem val_app (xs ys : List Nat) : digitsVal (xs ++ ys) = digitsVal xs * 10 ^ ys.length + digitsVal ys := by
  unfold digitsVal
  rw [List.foldl_append, val_from]
  rfl
theorem val_cons (c : Nat) (cs : List Nat) : digitsVal (c :: cs) = (c - 48) * 10 ^ cs.length + digitsVal cs := by
  rw [show c :: cs = [c] ++ cs from rfl, val_app]
  congr 2
  show 0 * 10 + (c - 48) = _
  omega
theorem val_lt : ∀ {cs : List Nat}, AllDigits cs → digitsVal cs < 10 ^ cs.length
  | [], _ => by decide
  | c :: cs, h => by
    have i := val_lt h.tail
    have hc := h.head
    rw [val_cons, List.length_cons, Nat.pow_succ]
    have : (c - 48) * 10 ^ cs.length ≤ 9 * 10 ^ cs.length := Nat.mul_le_mul_right _ (by omega)
    omega
/-- digits that do not begin with 0 -/
structure Plain (cs : List Nat) : Prop where
  dig : AllDigits cs
  ne : cs ≠ []
  no : cs.head? ≠ some 48
theorem val_pos {cs : List Nat} (h : Plain cs) : 0 < digitsVal cs := by
  cases cs with
  | nil => exact absurd rfl h.ne
  | cons c cs =>
    have hc := h.dig.head
    have : c ≠ 48 := fun e => h.no (by rw [e]; rfl)
    rw [val_cons]
    have : 1 * 10 ^ cs.length ≤ (c - 48) * 10 ^ cs.length := Nat.mul_le_mul_right _ (by omega)
    have : 0 < 10 ^ cs.length := Nat.pow_pos (by decide)
    omega
theorem dl_val_rev : ∀ (rs : List Nat), Plain rs.reverse → dl (digitsVal rs.reverse) = rs.reverse
  | [], h => absurd rfl h.ne
  | c :: rs, h => by
    have hc : 48 ≤ c ∧ c ≤ 57 := h.dig c (by rw [List.reverse_cons]; exact List.mem_append_right _ (.head _))
    rw [List.reverse_cons, val_snoc]
    by_cases e : rs = []
    · subst e
      show dl (0 * 10 + (c - 48)) = [c]
      rw [dl_lt (by omega), Nat.zero_mul, Nat.zero_add]
      exact congrArg (fun x => [x]) (by omega)
    · have p : Plain rs.reverse := ⟨fun x hx => h.dig x (by rw [List.reverse_cons]; exact List.mem_append_left _ hx), by simpa using e, fun z => h.no (by
        rw [List.reverse_cons]
        cases hr : rs.reverse with
        | nil => rw [hr] at z; cases z
        | cons y ys => rw [hr] at z; exact z)⟩
      rw [dl_ten (val_pos p) (by omega), dl_val_rev rs p]
      exact congrArg (fun x => _ ++ [x]) (by omega)
theorem dl_val {cs : List Nat} (h : Plain cs) : dl (digitsVal cs) = cs := by
  have := dl_val_rev cs.reverse (by rw [List.reverse_reverse]; exact h)
  rw [List.reverse_reverse] at this
  exact this
/-! texts -/
/-- the text of a number -/
def numT (n : Int) : Str := Str.ofString (toString n)
def valT (x : Str) : Nat := digitsVal x.cps.toList
theorem ofNat_cps (n : Nat) : (Str.ofString (toString n)).cps.toList = dl n := by
  rw [Str.ofString_eq_toList]
  show (List.map Char.toNat (Nat.repr n).toList) = _
  rw [Nat.toList_repr]
  rfl
theorem numT_cps {n : Int} (h : 0 ≤ n) : (numT n).cps.toList = dl n.toNat := by
  obtain ⟨m, rfl⟩ := Int.eq_ofNat_of_zero_le h
  exact ofNat_cps m
theorem ext {a b : Str} (h : a.cps.toList = b.cps.toList) : a = b := by
  cases a
  cases b
  exact congrArg Str.mk (Array.toList_inj.mp h)
theorem app_cps (a b : Str) : (a ++ b).cps.toList = a.cps.toList ++ b.cps.toList := Array.toList_append
theorem len_cps (a : Str) : a.cps.toList.length = a.length := Array.length_toList
theorem numT_val {x : Str} (h : Plain x.cps.toList) : numT (valT x : Nat) = x := ext (by
  rw [numT_cps (Int.natCast_nonneg _)]
  exact dl_val h)
theorem dl_digits (n : Nat) : AllDigits (dl n) := by
  refine Nat.strongRecOn n fun n ih => ?_
  by_cases c : n < 10
  · rw [dl_lt c]
    intro x hx
    rw [List.mem_singleton] at hx
    omega
  · rw [dl_ge (by omega)]
    intro x hx
    rcases List.mem_append.mp hx with hx | hx
    · exact ih (n / 10) (by omega) x hx
    · rw [List.mem_singleton] at hx
      omega
theorem dl_head (n : Nat) (h : 0 < n) : (dl n).head? ≠ some 48 := by
  revert h
  refine Nat.strongRecOn n fun n ih h => ?_
  by_cases c : n < 10
  · rw [dl_lt c]
    simp
    omega
  · rw [dl_ge (by omega)]
    have i := ih (n / 10) (by omega) (by omega)
    intro z
    cases hr : dl (n / 10) with
    | nil => exact dl_ne _ hr
    | cons y ys => rw [hr] at z i; exact i z
theorem dl_plain {n : Nat} (h : 0 < n) : Plain (dl n) := ⟨dl_digits n, dl_ne n, dl_head n h⟩
theorem val_dl (n : Nat) : digitsVal (dl n) = n := by
  refine Nat.strongRecOn n fun n ih => ?_
  by_cases c : n < 10
  · rw [dl_lt c]
    show 0 * 10 + (48 + n - 48) = n
    omega
  · rw [dl_ge (by omega), val_snoc, ih (n / 10) (by omega)]
    omega
theorem valT_num {n : Int} (h : 0 ≤ n) : (valT (numT n) : Int) = n := by
  unfold valT
  rw [numT_cps h, val_dl]
  omega
/-- str(rest).zfill(64) -/
theorem zfill_cps {n : Nat} {k : Nat} (h : n < 10 ^ (k + 1)) : (Txt.zfill (Str.ofString (toString n)) ((k + 1 : Nat) : Int)).cps.toList = pad (k + 1) n := by
  obtain ⟨l, e⟩ := pad_dl k n h
  have hl : (Str.ofString (toString n)).length = (dl n).length := by rw [← len_cps, ofNat_cps]
  unfold Txt.zfill
  by_cases c : ((k + 1 : Nat) : Int) ≤ ((Str.ofString (toString n)).length : Nat)
  · rw [if_pos c, ofNat_cps]
    rw [← e, show k + 1 - (dl n).length = 0 by omega]
    rfl
  · rw [if_neg c]
    have hz : zfilled (Str.ofString (toString n)) (((k + 1 : Nat) : Int).toNat - (Str.ofString (toString n)).length) = Builtin.Str.padded (Str.ofString (toString n)) (((k + 1 : Nat) : Int).toNat - (Str.ofString (toString n)).length) 0 48 := by
      unfold zfilled
      have h0 : (Str.ofString (toString n)).cps[0]? = (dl n)[0]? := by rw [← ofNat_cps, Array.getElem?_toList]
      rw [h0]
      cases hd : dl n with
      | nil => exact absurd hd (dl_ne n)
      | cons y ys =>
        have hy : 48 ≤ y ∧ y ≤ 57 := dl_digits n y (by rw [hd]; exact .head _)
        show (match some y with | some 43 | some 45 => _ | _ => _) = _
        split
        · rename_i z
          cases z
          omega
        · rename_i z
          cases z
          omega
        · rfl
    rw [hz, ← e]
    show ((Array.replicate _ 48 ++ _ ++ Array.replicate _ _).toList) = _
    have h1 : (Str.ofString n.repr).cps.toList = dl n := ofNat_cps n
    have h2 : (Str.ofString n.repr).length = (dl n).length := hl
    simp [h1, h2]
end Dg

set_option Elab.async false
set_option linter.all false
set_option maxRecDepth 100000
set_option maxHeartbeats 4000000
/-! The text of a number. -/
namespace Dg
open PySem
theorem flat_join : ∀ l : List Str, (Txt.join "" l).cps.toList = (l.map fun x => x.cps.toList).flatten := fun l => by
  rw [TL.join_eq]
  induction l with
  | nil => rfl
  | cons a r ih =>
    cases r with
    | nil =>
      show a.cps.toList = a.cps.toList ++ [].flatten
      rw [List.flatten_nil, List.append_nil]
    | cons b r =>
      show (a ++ ("" : Str) ++ Str.join "" (b :: r)).cps.toList = _
      rw [app_cps, app_cps, ih]
      show a.cps.toList ++ [] ++ _ = _
      rw [List.append_nil]
      rfl
theorem sum_len : ∀ l : List Str, (l.map (·.length)).sum = (l.map fun x => x.cps.toList).flatten.length
  | [] => rfl
  | a :: r => by
    rw [List.map_cons, List.sum_cons, sum_len r, List.map_cons, List.flatten_cons, List.length_append, len_cps]
theorem dl_len_lt {n : Nat} {k : Nat} (h : n < 10 ^ (k + 1)) : (dl n).length ≤ k + 1 := (pad_dl k n h).1
end Dg
namespace Fk
open PySem PySem.Spec PyProof.Rows L2 Dg
abbrev sNum : Stmt := top 21
abbrev numT := Dg.numT
def spNum : Sp := fun vs H Q _ => ∃ n : Int, vs = [.int n] ∧ 0 ≤ n ∧ (dl n.toNat).length ≤ 10000 ∧ ∀ H', EvP.Ex H H' → Q (.str (numT n)) H'
theorem scNum : FnScope ["number", "parts", "rest"] ["number"] (defScope sNum) := ⟨rfl, rfl, rfl, by decide +kernel, rfl, by decide +kernel, by decide +kernel⟩
theorem log_small {n : Int} (h0 : 0 ≤ n) (h1 : n < 10 ^ 64) : n.natAbs.log2 < 1920 := by
  by_cases h : n.natAbs = 0
  · rw [h]
    decide
  · refine (Nat.log2_lt h).mpr ?_
    have : n.natAbs < 10 ^ 64 := by omega
    exact Nat.lt_of_lt_of_le this (by decide)
theorem pss_dead {X : Cx} {st : List Stmt} : PSs X st (fun _ _ _ => False) := ⟨fun _ _ _ _ _ _ h => h.elim⟩
theorem div_ok (i : Int) : CDivP i ((10 : Int) ^ (64 : Int).toNat) := ⟨by decide, by
  unfold Builtin.divisionGoesByPylong
  have : decide ((if ((10 : Int) ^ (64 : Int).toNat) == 0 then 0 else ((10 : Int) ^ (64 : Int).toNat).natAbs.log2 / 30 + 1) > 300) = false := by decide +kernel
  exact Bool.and_eq_false_iff.mpr (.inl this)⟩
section
variable {P : Program} {w : World} {K : PySem.W.Frag} {mg : Str → Option Value} {base : Heap} {f : Addr} {fd : FuncData}
theorem ok_num {tC : Tok} (F : Fun K "number_text" "number_text" sNum f fd) (T : Blt mg) (hD : mg "divmod" = none) (gC : mg "CHUNK" = some (.int 64 tC)) : FnOk P w K mg base CX0 1 f fd ["number"] spNum := by
  have nd := scNum.nd
  refine F.ok scNum (fun vs H Q E h => ?_) (fun cdv A outer s H vs Q E hr h => ?_)
  · obtain ⟨n, rfl, _⟩ := h
    rfl
  · obtain ⟨n, rfl, h0, h1, q⟩ := h
    refine ⟨_, pss_cons (ps_set (i := 1) nd rfl (Or.inl rfl) (pe_lst pa_nil)) (pss_cons (ps_while PassesOwn.never (pt_cmpR op_ge (pv 0) (pe_op op_pow pe_int pe_int) (nomark _))
        (pss_cons (ps_asg (pe_callB call_divmodW (by rfl) hD (by decide +kernel) (pa_cons (pv 0) (pa_cons (pe_op op_pow pe_int pe_int) pa_nil))) (pg_tup rfl (pgs_cons (pg_name (i := 0) nd rfl (Or.inl rfl)) (pgs_cons (pg_name (i := 2) nd rfl (Or.inl rfl)) pgs_nil))))
          (pss_one (ps_expr (pe_bm PySem.F.plainAttrs_list PySem.F.slot_list_append PySem.F.type_list_append mt_append (pv 1) (pa_cons (pe_bm PySem.F.plainAttrs_str PySem.F.slot_str_zfill PySem.F.type_str_zfill mt_zfill (pe_callTy call_str_int (by rfl) T.str (by decide +kernel) (pa_cons (pv 2) pa_nil)) (pa_cons (pe_glob (v := .int 64) (by rfl) gC ⟨_, rfl⟩) pa_nil)) pa_nil))))))
      (pss_one (ps_ret (pe_join pe_str (pe_lst (pa_cons (pe_callTy call_str_int (by rfl) T.str (by decide +kernel) (pa_cons (pv 0) pa_nil)) (StX.pa_star (pe_revL (pv 1)) pa_nil))))))), ?_⟩
    refine ⟨by show 0 ≤ sizeLine; decide, fun p hp => ?_⟩
    have e1 := EvP.Ex.new (o := .lst []) hp
    refine ⟨fun μ s h => ∃ (m : Int) (ps : List Str) (o : Option V), μ = m.toNat ∧ s = [some (.int m), some (.ref p), o] ∧ 0 ≤ m ∧ EvP.Ex H h ∧ h p = some (.lst (ps.map V.str)) ∧ (∀ x ∈ ps, x.cps.toList.length = 64) ∧
      dl n.toNat = dl m.toNat ++ (ps.reverse.map fun x => x.cps.toList).flatten ∧ 64 * ps.length ≤ 10000, ⟨_, n, [], _, rfl, rfl, h0, e1, upd_same, fun x hx => (nomatch hx), (List.append_nil _).symm, Nat.zero_le _⟩, fun μ σ H' h => ?_⟩
    obtain ⟨m, ps, o, rfl, rfl, m0, eH, hps, l64, eq, few⟩ := h
    refine ⟨_, rfl, 10, 64, rfl, rfl, ⟨by decide, by decide, by decide⟩, _, _, rfl, rfl, _, rfl, ?_⟩
    refine ite2 (fun c => ?_) (fun c => ?_)
    · have c' : (10 : Int) ^ 64 ≤ m := of_decide_eq_true c
      have hm : ∃ M : Nat, m = M := ⟨m.toNat, by omega⟩
      obtain ⟨M, rfl⟩ := hm
      have cM : 10 ^ 64 ≤ M := by
        have : ((10 ^ 64 : Nat) : Int) ≤ (M : Int) := c'
        exact Int.ofNat_le.mp this
      have qp : 0 < M / 10 ^ 64 := Nat.div_pos cM (by decide)
      have rl : M % 10 ^ 64 < 10 ^ (63 + 1) := Nat.mod_lt _ (by decide)
      have dM : dl M = dl (M / 10 ^ 64) ++ pad 64 (M % 10 ^ 64) := by
        have := dl_pad 64 (M / 10 ^ 64) (M % 10 ^ 64) qp rl
        rw [← this, Nat.mul_comm, Nat.div_add_mod]
      have e10 : ((10 : Int) ^ (64 : Int).toNat) = ((10 ^ 64 : Nat) : Int) := by decide
      refine ⟨fun s' h' => ∃ (x : Str) (o' : Option V), s' = [some (.int ((M / 10 ^ 64 : Nat) : Int)), some (.ref p), o'] ∧ EvP.Ex H h' ∧ h' p = some (.lst ((ps ++ [x]).map V.str)) ∧ x.cps.toList = pad 64 (M % 10 ^ 64), fun s' h' ⟨x, o', a1, a2, a3, a4⟩ => ⟨(M / 10 ^ 64), ?_, _, ps ++ [x], o', ?_, a1, Int.natCast_nonneg _, a2, a3, ?_, ?_, ?_⟩, ?_⟩
      · show M / 10 ^ 64 < M
        exact Nat.div_lt_self (by omega) (by decide)
      · rfl
      · intro y hy
        rcases List.mem_append.mp hy with hy | hy
        · exact l64 y hy
        · rw [List.mem_singleton.mp hy, a4, pad_len]
      · rw [eq, List.reverse_append, List.map_append, List.flatten_append]
        show dl M ++ _ = dl (M / 10 ^ 64) ++ ((x.cps.toList ++ []) ++ _)
        rw [dM, List.append_nil, a4, List.append_assoc]
      · have hl := congrArg List.length eq
        have : ((ps.reverse.map fun x => x.cps.toList).flatten).length = 64 * ps.length := by
          rw [← sum_len]
          clear hps eq few hl a3
          have : ∀ l : List Str, (∀ x ∈ l, x.cps.toList.length = 64) → (l.map (·.length)).sum = 64 * l.length := fun l => by
            induction l with
            | nil => intro _; rfl
            | cons a r ih =>
              intro h
              rw [List.map_cons, List.sum_cons, ih fun x hx => h x (.tail _ hx), List.length_cons]
              have := h a (.head _)
              rw [len_cps] at this
              omega
          rw [this _ fun x hx => l64 x (List.mem_reverse.mp hx), List.length_reverse]
        rw [List.length_append, this, show (M : Int).toNat = M from rfl, dM, List.length_append, pad_len] at hl
        rw [List.length_append]
        show 64 * (ps.length + 1) ≤ 10000
        omega
      · refine ⟨_, rfl, 10, 64, rfl, rfl, ⟨by decide, by decide, by decide⟩, _, _, rfl, div_ok _, fun t ht => ?_⟩
        have pt : p ≠ t := ne_of_none hps ht
        refine ⟨t, _, rfl, SqT.of upd_same, rfl, _, _, rfl, _, _, rfl, rfl, ?_⟩
        rw [e10]
        have lm : M % 10 ^ 64 < 10 ^ (63 + 1) := rl
        have er : ((M : Int) % ((10 ^ 64 : Nat) : Int)) = ((M % 10 ^ 64 : Nat) : Int) := rfl
        rw [er]
        refine ⟨_, rfl, .inl ⟨rfl, _, SqL.of (by rw [upd_ne pt]; exact hps)⟩, _, rfl, _, rfl, log_small (Int.natCast_nonneg _) (by exact Int.ofNat_lt.mpr lm), rfl, _, _, rfl, rfl, rfl, p, _, _, rfl, rfl, by rw [upd_ne pt]; exact hps, ?_, ?_⟩
        · rw [List.length_map, sizeLine_eq]
          omega
        · refine ⟨_, _, rfl, fun b o hb => ?_, ?_, zfill_cps (k := 63) lm⟩
          · rw [upd_ne (ne_of_none hb hp), upd_ne (ne_of_none (eH _ _ hb) ht)]
            exact eH _ _ hb
          · rw [upd_same, List.map_append]
            rfl
    · have c' : ¬ (10 : Int) ^ 64 ≤ m := fun z => by
        have := decide_eq_true (p := (10 : Int) ^ (64 : Int).toNat ≤ m) z
        exact c this
      refine ⟨⟨_, rfl⟩, _, rfl, m, rfl, log_small m0 (by omega), _, rfl, p, _, rfl, SqL.of hps, fun r hr' => ?_⟩
      refine ⟨_, _, rfl, .inr (SqL.of upd_same), ?_, fun t ht => ?_⟩
      · simp only [List.length_cons, List.length_append, List.length_reverse, List.length_map, List.length_nil]
        rw [sizeLine_eq]
        omega
      have e2 := EvP.Ex.new (o := .lst (ps.map V.str).reverse) hr'
      have el : (V.str (Str.ofString (toString m)) :: ((ps.map V.str).reverse ++ [])) = (numT m :: ps.reverse).map V.str := by
        rw [List.append_nil, List.map_cons, List.map_reverse]
        rfl
      have tot : ((numT m :: ps.reverse).map fun x => x.cps.toList).flatten = dl n.toNat := by
        rw [eq, List.map_cons, List.flatten_cons, numT_cps m0]
      refine ⟨_, t, numT m :: ps.reverse, rfl, rfl, .inl (SqL.of (by rw [← el]; exact upd_same)), ?_, ?_⟩
      · rw [sum_len, tot]
        show _ + _ * 0 ≤ 16777216
        omega
      · have : Txt.join "" (numT m :: ps.reverse) = numT n := Dg.ext (by rw [flat_join, tot, numT_cps h0])
        rw [this]
        exact q _ ((eH.trans e2).trans (EvP.Ex.new ht))
end
end Fk

set_option Elab.async false
set_option linter.all false
set_option maxRecDepth 100000
set_option maxHeartbeats 4000000
/-! Comprehensions that only add objects. -/
namespace Cm
open PySem PySem.Spec PyProof.Rows L2 EvP
/-- an iterable whose items are xs, while objects are only added -/
def Walks (wi : TI) (σ : L2.St) (H : Hp) (xs : List V) : Prop := ∀ H1, Ex H H1 → ∀ R : It → Hp → Prop, (∀ J H2, Ex H1 H2 → (∃ G : Hp → Prop, Walk J xs.length G (YAt xs) ∧ ∀ H3, Ex H2 H3 → G H3) → R J H2) → wi σ H1 R
/-- a list, a tuple of just these -/
def lstV (xs : List V) : PR := ⟨fun v H => ∃ a, v = .ref a ∧ H a = some (.lst xs), fun _ _ _ e ⟨a, h1, h2⟩ => ⟨a, h1, e _ _ h2⟩⟩
def tupV (xs : List V) : PR := ⟨fun v H => ∃ a, v = .ref a ∧ H a = some (.tup xs), fun _ _ _ e ⟨a, h1, h2⟩ => ⟨a, h1, e _ _ h2⟩⟩
section
variable {K : PySem.W.Frag} {σ : L2.St} {H : Hp} {tl te : TE} {tt : TT} {xs : List V} {vs : List Nat} {i : Nat} {wi : TI}
theorem walks_list (h : Gives tl σ H (lstV xs)) : Walks (iList K tl) σ H xs := fun H1 e R r =>
  h H1 e _ fun v H2 e2 ⟨a, ev, ha⟩ => ⟨a, ev, ⟨xs, SqL.of ha⟩, r _ _ e2 ⟨_, walk_list, fun H3 e3 => SqL.of (e3 _ _ ha)⟩⟩
theorem walks_tup (h : Gives tl σ H (tupV xs)) : Walks (iTup K tl) σ H xs := fun H1 e R r =>
  h H1 e _ fun v H2 e2 ⟨a, ev, ha⟩ => ⟨a, ev, ⟨xs, SqT.of ha⟩, r _ _ e2 ⟨_, walk_tup, fun H3 e3 => SqT.of (e3 _ _ ha)⟩⟩
theorem all2_snoc {H : Hp} : ∀ {Ps : List PR} {vs : List V} {P : PR} {v : V}, All2 H Ps vs → P.R v H → All2 H (Ps ++ [P]) (vs ++ [v])
  | _, _, _, _, .nil, h => .cons h .nil
  | _, _, _, _, .cons a t, h => .cons a (all2_snoc t h)
/-- what a list that grows does not touch -/
def Stays (P : PR) : Prop := ∀ v H D ys zs, P.R v H → H D = some (.lst ys) → P.R v (upd H D (.lst zs))
theorem all2_stays {H : Hp} {D : Addr} {ys zs : List V} (hD : H D = some (.lst ys)) : ∀ {Ps : List PR} {vs : List V}, (∀ P ∈ Ps, Stays P) → All2 H Ps vs → All2 (upd H D (.lst zs)) Ps vs
  | _, _, _, .nil => .nil
  | _, _, s, .cons a t => .cons (s _ (.head _) _ _ _ _ _ a hD) (all2_stays hD (fun P hP => s P (.tail _ hP)) t)
theorem stays_is (v : V) : Stays (is v) := fun _ _ _ _ _ h _ => h
theorem stays_tupV (ys : List V) : Stays (tupV ys) := fun v H D l1 l2 ⟨a, h1, h2⟩ hD => ⟨a, h1, by
  rw [upd_ne (ne_of h2 hD (fun z => nomatch z))]
  exact h2⟩
/-- [e for x in xs if t] -/
theorem comp (keep : V → Bool) (φ : V → PR) (hw : Walks wi σ H xs) (hz : xs.length ≤ 1000) (wp : ∀ x, wipe ((wipe σ vs).set i (some x)) vs = wipe σ vs)
    (ht : ∀ x ∈ xs, ∀ H1, Ex H H1 → ∀ Q : Bool → Hp → Prop, Q (keep x) H1 → tt ((wipe σ vs).set i (some x)) H1 Q) (he : ∀ x ∈ xs, keep x = true → Gives te ((wipe σ vs).set i (some x)) H (φ x)) (st : ∀ x ∈ xs, Stays (φ x)) :
    Gives (tLc wi (gName i) tt te vs) σ H (lst H ((xs.filter keep).map φ)) := fun H1 e1 Q q => by
  refine hw H1 e1 _ fun J H2 e2 ⟨G, w, g⟩ D hD => ?_
  have mem : ∀ (j : Nat) (P : PR), P ∈ ((xs.take j).filter keep).map φ → Stays P := fun j P hP => by
    obtain ⟨x, hx, rfl⟩ := List.mem_map.mp hP
    exact st x (List.mem_of_mem_take (List.mem_filter.mp hx).1)
  have len : ∀ j, (((xs.take j).filter keep).map φ).length ≤ 1000 := fun j => by
    rw [List.length_map]
    exact Nat.le_trans (List.length_filter_le _ _) (by rw [List.length_take]; omega)
  refine lc_it w (fun j H' => ∃ acc, H' D = some (.lst acc) ∧ Ex H2 H' ∧ All2 H' (((xs.take j).filter keep).map φ) acc) ⟨[], upd_same, Ex.new hD, .nil⟩ (fun j H' _ ⟨_, _, e3, _⟩ => g _ e3) (fun j x H' H'' hj ⟨acc, a1, a2, a3⟩ y => ?_) (fun H' ⟨acc, a1, a2, a3⟩ => ?_)
  · obtain ⟨rfl, hx⟩ := y
    have mx := List.mem_of_getElem? hx
    have eH := (e1.trans e2).trans a2
    have tk : xs.take (j + 1) = xs.take j ++ [x] := by
      rw [List.take_add_one, hx]
      rfl
    refine ⟨wp x, ht x mx _ eH _ ?_⟩
    cases kx : keep x with
    | false =>
      refine ⟨acc, a1, a2, ?_⟩
      rw [tk, List.filter_append, List.filter_cons, kx]
      simpa using a3
    | true =>
      refine he x mx kx _ eH _ fun v H4 e4 hv => ⟨acc, e4 _ _ a1, ?_, acc ++ [v], upd_same, fun b o hb => ?_, ?_⟩
      · have := a3.length
        have := len j
        rw [sizeLine_eq]
        omega
      · rw [upd_ne (ne_of_none hb hD)]
        exact e4 _ _ (a2 _ _ hb)
      · rw [tk, List.filter_append, List.filter_cons, kx, List.map_append]
        refine all2_stays (e4 _ _ a1) (fun P hP => ?_) (all2_snoc (a3.ex e4) hv)
        rcases List.mem_append.mp hP with hP | hP
        · exact mem j P hP
        · rw [List.mem_singleton.mp hP]
          exact st x mx
  · rw [List.take_length] at a3
    exact q _ _ (e2.trans a2) ⟨D, acc, rfl, a1, (e1.trans e2).back hD, a3⟩
theorem all2_is : ∀ {H : Hp} {ws vs : List V}, All2 H (ws.map is) vs → vs = ws
  | _, [], _, .nil => rfl
  | _, w :: ws, _, .cons a t => by rw [show _ = w from a, all2_is t]
/-- .. of values that are told -/
theorem comp_is (keep : V → Bool) (f : V → V) (hw : Walks wi σ H xs) (hz : xs.length ≤ 1000) (wp : ∀ x, wipe ((wipe σ vs).set i (some x)) vs = wipe σ vs)
    (ht : ∀ x ∈ xs, ∀ H1, Ex H H1 → ∀ Q : Bool → Hp → Prop, Q (keep x) H1 → tt ((wipe σ vs).set i (some x)) H1 Q) (he : ∀ x ∈ xs, keep x = true → Gives te ((wipe σ vs).set i (some x)) H (is (f x))) :
    Gives (tLc wi (gName i) tt te vs) σ H (lstV ((xs.filter keep).map f)) := fun H1 e1 Q q =>
  comp keep (fun x => is (f x)) hw hz wp ht he (fun _ _ => stays_is _) H1 e1 Q fun v H2 e2 ⟨a, ws, ev, ha, _, hs⟩ => q v H2 e2 ⟨a, ev, by
    have h2 : All2 H2 ((List.map f (xs.filter keep)).map is) ws := by
      rw [List.map_map]
      exact hs
    rw [← all2_is h2]
    exact ha⟩
/-- [e for k in d], d locked meanwhile -/
theorem comp_keys {m : Nat} {d : Addr} {kvs : List (Key × V)} (f : Key → V) (hd : σ[m]? = some (some (.ref d))) (at_ : H d = some (.dK kvs)) (hz : kvs.length ≤ 1000) (wp : ∀ x, wipe ((wipe σ vs).set i (some x)) vs = wipe σ vs)
    (he : ∀ x ∈ kvs, ∀ H1 (Q : VK), Q (f x.1) H1 → te ((wipe σ vs).set i (some (kV x.1))) H1 Q) :
    Gives (tLockE (tLc (iKeys (tVar m)) (gName i) tYes te vs)) σ H (lstV (kvs.map fun x => f x.1)) := fun H1 e1 Q q => by
  have h1 := e1 _ _ at_
  refine ⟨d, _, h1, True.intro, fun od => ⟨_, hd, d, od, rfl, .inl ⟨kvs, upd_same, fun D hD => ?_⟩⟩⟩
  have nd : d ≠ D := fun z => by
    rw [← z, upd_same] at hD
    cases hD
  have nD : H1 D = none := by rw [upd_ne nd.symm] at hD; exact hD
  refine lc_it walk_keys (fun j H' => H' = upd (upd H1 d (.frz od (.dK kvs))) D (.lst ((kvs.take j).map fun x => f x.1))) (by rw [List.take_zero]; rfl) (fun j H' _ e => by rw [e, upd_ne nd, upd_same]) (fun j x H' H'' hj e y => ?_) (fun H' e => ?_)
  · obtain ⟨rfl, k, v, hk, rfl⟩ := y
    refine ⟨wp _, he (k, v) (List.mem_of_getElem? hk) _ _ ⟨_, by rw [e]; exact upd_same, ?_, ?_⟩⟩
    · rw [List.length_map, List.length_take, sizeLine_eq]
      omega
    · rw [e, List.take_add_one, hk, List.map_append]
      funext b
      by_cases hb : b = D
      · rw [hb, upd_same, upd_same]
        rfl
      · rw [upd_ne hb, upd_ne hb, upd_ne hb]
  · refine ⟨by rw [e, upd_ne nd, upd_same], q _ _ (fun b o hb => ?_) ⟨D, rfl, ?_⟩⟩
    · rw [e]
      by_cases h : b = d
      · rw [h, upd_same, ← h1, ← h]
        exact hb
      · rw [upd_ne h, upd_ne (ne_of_none hb nD), upd_ne h]
        exact hb
    · rw [upd_ne nd.symm, e, upd_same, List.take_length]
end
end Cm

set_option Elab.async false
set_option linter.all false
set_option maxRecDepth 100000
set_option maxHeartbeats 4000000
/-! Names in their order; what a side tells. -/
namespace Fk
open PySem PySem.Spec PyProof.Rows L2 EvP
def leS (a b : Str) : Prop := a.cps.toList ≤ b.cps.toList
theorem leS_trans {a b c : Str} (h : leS a b) (k : leS b c) : leS a c := List.le_trans h k
theorem leS_anti {a b : Str} (h : leS a b) (k : leS b a) : a = b := by
  have := List.le_antisymm h k
  cases a
  cases b
  exact congrArg Str.mk (Array.toList_inj.mp this)
theorem leS_total (a b : Str) : leS a b ∨ leS b a := List.le_total _ _
theorem rising_pairwise : ∀ (l : List Str) (p : Str), risingS p l = true → (p :: l).Pairwise leS
  | [], _, _ => List.pairwise_singleton _ _
  | x :: r, p, h => by
    obtain ⟨h1, h2⟩ := Bool.and_eq_true_iff.mp (show (!ltCps x.cps.toList p.cps.toList && risingS x r) = true from h)
    have h3 : leS p x := by
      rw [ltCps_eq] at h1
      exact List.not_lt.mp (by simpa using h1)
    have ih := rising_pairwise r x h2
    refine List.pairwise_cons.mpr ⟨fun y hy => ?_, ih⟩
    rcases List.mem_cons.mp hy with rfl | hy
    · exact h3
    · exact leS_trans h3 ((List.pairwise_cons.mp ih).1 y hy)
theorem sorted_pairwise : ∀ {l : List Str}, sortedS l = true → l.Pairwise leS
  | [], _ => List.Pairwise.nil
  | x :: r, h => rising_pairwise r x h
/-- names in their order -/
def srt (xs : List Str) : List Str := xs.mergeSort fun a b => decide (a.cps.toList ≤ b.cps.toList)
theorem srt_pairwise (xs : List Str) : (srt xs).Pairwise leS := by
  have := List.pairwise_mergeSort (le := fun a b : Str => decide (a.cps.toList ≤ b.cps.toList)) (fun a b c h k => decide_eq_true (List.le_trans (of_decide_eq_true h) (of_decide_eq_true k)))
    (fun a b => by
      rcases leS_total a b with h | h
      · rw [decide_eq_true (show a.cps.toList ≤ b.cps.toList from h)]
        rfl
      · rw [decide_eq_true (show b.cps.toList ≤ a.cps.toList from h), Bool.or_true]) xs
  exact this.imp fun h => of_decide_eq_true h
theorem srt_perm (xs : List Str) : (srt xs).Perm xs := List.mergeSort_perm xs _
theorem srt_of {xs ys : List Str} (p : ys.Perm xs) (h : sortedS ys = true) : ys = srt xs :=
  List.Perm.eq_of_pairwise (le := leS) (fun _ _ _ _ h k => leS_anti h k) (sorted_pairwise h) (srt_pairwise xs) (p.trans (srt_perm xs).symm)
theorem srt_eq {xs ys : List Str} (p : ys.Perm xs) : srt ys = srt xs :=
  List.Perm.eq_of_pairwise (le := leS) (fun _ _ _ _ h k => leS_anti h k) (srt_pairwise ys) (srt_pairwise xs) ((srt_perm ys).trans (p.trans (srt_perm xs).symm))
/-- names with amounts -/
abbrev Row := List (Str × Int)
def amt (kvs : Row) (n : Str) : Int := (kvs.lookup n).getD 0
/-- all names in their order, each with its amount -/
def asc (kvs : Row) : Row := (srt (kvs.map (·.1))).map fun n => (n, amt kvs n)
/-- those above 0 -/
def told (kvs : Row) : Row := (asc kvs).filter fun t => decide (0 < t.2)
/-- as entries of a dict -/
def ents (kvs : Row) : List (Key × V) := kvs.map fun t => ((Sum.inr t.1 : Key), V.int t.2)
theorem valV_ents : ∀ (kvs : Row) (n : Str), valV (ents kvs) (Sum.inr n) = (kvs.lookup n).map V.int
  | [], _ => rfl
  | t :: r, n => by
    by_cases h : t.1 = n
    · rw [show ents (t :: r) = ((Sum.inr t.1 : Key), V.int t.2) :: ents r from rfl, valV_pos (by rw [h]), show ((t :: r).lookup n) = some t.2 by
        obtain ⟨a, b⟩ := t
        simp only at h
        subst h
        simp [List.lookup]]
      rfl
    · rw [show ents (t :: r) = ((Sum.inr t.1 : Key), V.int t.2) :: ents r from rfl, valV_neg (fun z => h (Sum.inr.inj z)), valV_ents r n, show ((t :: r).lookup n) = r.lookup n by
        obtain ⟨a, b⟩ := t
        have : (n == a) = false := beq_eq_false_iff_ne.mpr fun z => h z.symm
        simp [List.lookup, this]]
theorem lookup_mem : ∀ {kvs : Row} {n : Str}, n ∈ kvs.map (·.1) → ∃ a, kvs.lookup n = some a ∧ (n, a) ∈ kvs
  | (m, b) :: r, n, h => by
    by_cases e : n = m
    · subst e
      exact ⟨b, by simp [List.lookup], .head _⟩
    · rcases List.mem_cons.mp h with h | h
      · exact absurd h e
      · obtain ⟨a, h1, h2⟩ := lookup_mem h
        have : (n == m) = false := beq_eq_false_iff_ne.mpr e
        exact ⟨a, by simp [List.lookup, this, h1], .tail _ h2⟩
theorem amt_of {kvs : Row} {n : Str} (h : n ∈ kvs.map (·.1)) : kvs.lookup n = some (amt kvs n) ∧ (n, amt kvs n) ∈ kvs := by
  obtain ⟨a, h1, h2⟩ := lookup_mem h
  unfold amt
  rw [h1]
  exact ⟨rfl, h2⟩
theorem mem_srt {xs : List Str} {n : Str} : n ∈ srt xs ↔ n ∈ xs := (srt_perm xs).mem_iff
def meth (j : Nat) : Stmt := match top 29 with
  | .ClassDef _ _ _ body _ _ _ _ _ _ _ => body.getD j (.Pass ⟨0, 0, 0, 0⟩)
  | _ => .Pass ⟨0, 0, 0, 0⟩
abbrev sInit : Stmt := meth 0
end Fk

set_option Elab.async false
set_option linter.all false
set_option maxRecDepth 100000
set_option maxHeartbeats 4000000
/-! What calls and signs give, by values. -/
namespace Cm
open PySem PySem.Spec PyProof.Rows L2 EvP
def dictV (kvs : List (Key × V)) : PR := ⟨fun v H => ∃ a, v = .ref a ∧ H a = some (.dK kvs), fun _ _ _ e ⟨a, h1, h2⟩ => ⟨a, h1, e _ _ h2⟩⟩
/-- the same, new over H0 -/
def dictN (H0 : Hp) (kvs : List (Key × V)) : PR := ⟨fun v H => ∃ a, v = .ref a ∧ H a = some (.dK kvs) ∧ H0 a = none, fun _ _ _ e ⟨a, h1, h2, h3⟩ => ⟨a, h1, e _ _ h2, h3⟩⟩
section
variable {K : PySem.W.Frag} {σ : L2.St} {H : Hp} {te tl tv : TE} {xs : List V} {i j : Nat} {vs : List Nat}
theorem g_sorted {ss : List Str} (h : Gives te σ H (lstV (ss.map V.str))) (hz : ss.length < 64) : Gives (tCB (rSortedS K) (tCons te tNil)) σ H (lstV ((Fk.srt ss).map V.str)) := fun H1 e Q q =>
  h H1 e _ fun v H2 e2 ⟨a, ev, ha⟩ => ⟨a, ss, by rw [ev], SqL.of ha, hz, fun ys p pm so hp => by
    rw [Fk.srt_of pm so]
    exact q _ _ (e2.trans (Ex.new hp)) ⟨p, rfl, upd_same⟩⟩
theorem g_sum {ns : List Int} (h : Gives te σ H (lstV (ns.map V.int))) : Gives (tCB (rSum K) (tCons te tNil)) σ H (is (.int ns.sum)) := fun H1 e Q q =>
  h H1 e _ fun v H2 e2 ⟨a, ev, ha⟩ => ⟨a, ns, by rw [ev], SqL.of ha, q _ _ e2 rfl⟩
theorem g_tupV (h : Gives te σ H (lstV xs)) : Gives (tThen te (kTup K)) σ H (tupV xs) := fun H1 e Q q =>
  h H1 e _ fun v H2 e2 ⟨a, ev, ha⟩ => .inl ⟨a, xs, ev, SqL.of ha, fun p hp => q _ _ (e2.trans (Ex.new hp)) ⟨p, rfl, upd_same⟩⟩
theorem g_tup {H0 : Hp} {Ps : List PR} (h : Gives te σ H (lst H0 Ps)) : Gives (tThen te (kTup K)) σ H (tup Ps) := fun H1 e Q q =>
  h H1 e _ fun v H2 e2 ⟨a, ws, ev, ha, _, hs⟩ => .inl ⟨a, ws, ev, SqL.of ha, fun p hp => q _ _ (e2.trans (Ex.new hp)) ⟨p, ws, rfl, upd_same, hs.ex (Ex.new hp)⟩⟩
/-- d[k], d in slot i, k in slot j -/
theorem g_get {d : Addr} {kvs : List (Key × V)} {k : Key} {v : V} (hi : σ[i]? = some (some (.ref d))) (hj : σ[j]? = some (some (kV k))) (hd : H d = some (.dK kvs)) (hv : valV kvs k = some v) : Gives (tDGet (tVar i) (tVar j)) σ H (is v) := fun H1 e Q q =>
  ⟨_, hi, _, hj, d, v, rfl, by rw [← hv]; exact DGet.k (e _ _ hd), q _ _ (Ex.refl H1) rfl⟩
/-- x > n -/
theorem t_gt {a b : TE} {x y : Int} (h : Gives a σ H (is (.int x))) (k : Gives b σ H (is (.int y))) : ∀ H1, Ex H H1 → ∀ Q : Bool → Hp → Prop, (∀ H2, Ex H1 H2 → Q (decide (y < x)) H2) → tTest (tOp (rI0 fun i j => .bl (decide (j < i))) a b) σ H1 Q := fun H1 e Q q =>
  h H1 e _ fun v H2 e2 ev => k H2 (e.trans e2) _ fun u H3 e3 eu => ⟨x, y, ev, eu, _, rfl, q _ (e2.trans e3)⟩
/-- {n: e for n in names} over a tuple of names -/
theorem comp_dict {ss : List Str} (f : Str → V) (h : Gives tl σ H (tupV (ss.map V.str))) (hz : ss.length ≤ 1000) (nod : ss.Nodup) (hi : i < σ.length) (wp : ∀ x, wipe ((wipe σ vs).set i (some x)) vs = wipe σ vs)
    (he : ∀ n ∈ ss, Gives tv ((wipe σ vs).set i (some (.str n))) H (is (f n))) : Gives (tDc (iTup K tl) (gName i) tYes (tVar i) tv vs) σ H (dictN H (ss.map fun n => ((Sum.inr n : Key), f n))) := fun H1 e1 Q q => by
  refine h H1 e1 _ fun v H2 e2 ⟨a, ev, ha⟩ => ⟨a, ev, ⟨_, SqT.of ha⟩, fun D hD => ?_⟩
  refine dc_tup (xs := ss.map V.str) (fun j H' => H' D = some (.dK ((ss.take j).map fun n => ((Sum.inr n : Key), f n))) ∧ Ex H2 H') ⟨by rw [List.take_zero]; exact upd_same, Ex.new hD⟩ (fun j H' _ ⟨_, e3⟩ => SqT.of (e3 _ _ ha)) (fun j x H' hx ⟨a1, a2⟩ => ?_) (fun H' ⟨a1, a2⟩ => ?_)
  · rw [List.getElem?_map] at hx
    obtain ⟨n, hn, rfl⟩ := Option.map_eq_some_iff.mp hx
    have eH := (e1.trans e2).trans a2
    have lw : (wipe σ vs).length = σ.length := wipe_length σ vs
    refine ⟨wp _, .str n, by rw [List.getElem?_set_self (by rw [lw]; exact hi)], he n (List.mem_of_getElem? hn) _ eH _ fun v H4 e4 hv => ⟨_, Sum.inr n, rfl, e4 _ _ a1, ?_, ?_, fun b o hb => ?_⟩⟩
    · rw [List.length_map, List.length_take, sizeLine_eq]
      omega
    · have new : valV ((ss.take j).map fun n => ((Sum.inr n : Key), f n)) (Sum.inr n) = none := by
        have no : ¬ (((ss.take j).map fun n => ((Sum.inr n : Key), f n)).any fun kv => decide (kv.1 = Sum.inr n)) = true := by
          intro y
          obtain ⟨p, hp, ep⟩ := List.any_eq_true.mp y
          obtain ⟨m, hm, rfl⟩ := List.mem_map.mp hp
          have e : m = n := Sum.inr.inj (of_decide_eq_true ep)
          rw [e] at hm
          obtain ⟨t, ht, et⟩ := List.getElem_of_mem hm
          rw [List.getElem_take] at et
          have lt : t < j := by
            rw [List.length_take] at ht
            omega
          obtain ⟨jl, ej⟩ := List.getElem?_eq_some_iff.mp hn
          exact List.pairwise_iff_getElem.mp nod t j (by rw [List.length_take] at ht; omega) jl lt (et.trans ej.symm)
        rw [valV_any] at no
        simpa using no
      rw [upd_same, putK_new _ new, List.take_add_one, hn, List.map_append, show v = f n from hv]
      rfl
    · rw [upd_ne (ne_of_none hb hD)]
      exact e4 _ _ (a2 _ _ hb)
  · rw [List.length_map, List.take_length] at a1
    exact q _ _ (e2.trans a2) ⟨D, rfl, a1, (e1.trans e2).back hD⟩
end
end Cm

set_option Elab.async false
set_option linter.all false
set_option maxRecDepth 100000
set_option maxHeartbeats 4000000
/-! The dict that a parameter **d gets: new, filled by names. -/
namespace Mrg
open PySem PySem.Spec PyProof.Rows PySem.W L2
section
variable {prog : Program} {w : World} {A : Around} {E : Value → Shared → Prop}
def byName (es : List DictEntry) : Prop := ∀ e ∈ es, e.refKey = false
def lacks (es : List DictEntry) (k : Str) : Prop := ∀ e ∈ es, e.key.isStr k = false
theorem set_at {s : Shared} {d : Addr} {es : List DictEntry} {n : Nat} {k : Str} {v : Value} {Q : Unit → Shared → Prop} (at_ : s.heap.get? d = some (dictOf es n)) (l : lacks es k) (b : byName es)
    (q : ∀ h1 : Heap, h1.get? d = some (dictOf (es ++ [⟨PyData.keyHash w.params k, .str k s.toks, v⟩]) (n + 1)) → Heap.SameBut d s.heap h1 → Q () { s with heap := h1, toks := s.toks + 1 }) :
    wpAny (model prog w) A (nsSet d k v) Q E s := by
  have n1 : es.any (fun x => x.key.isStr k) = false := List.any_eq_false.mpr fun x hx => by
    rw [l x hx]
    exact Bool.false_ne_true
  have n2 : es.any (fun x => x.refKey) = false := List.any_eq_false.mpr fun x hx => by
    rw [b x hx]
    exact Bool.false_ne_true
  have no : aRefKeyMayBeTheName k es.toArray = false := by
    rw [aRefKeyMayBeTheName_at, ← Array.any_toList, ← Array.any_toList]
    exact (congrArg (fun z => !es.any (fun x => x.key.isStr k) && z) n2).trans (Bool.and_false _)
  have pn : Obj.putName k (PyData.keyHash w.params k) (.str k s.toks) v (dictOf es n) = dictOf (es ++ [⟨PyData.keyHash w.params k, .str k s.toks, v⟩]) (n + 1) := by
    rw [putName_dict, putL_new l]
    unfold putN
    rw [n1]
    rfl
  unfold nsSet
  refine wpAny_bind (wpAny_bind (wpAny_askSetting (wpAny_pure (wpAny_bind (wpAny_mkText (wpAny_bind (wpAny_loadPart at_ ?_)))))))
  dsimp only
  rw [no]
  refine wpAny_updatePart at_ (q _ ?_ (Heap.SameBut.update ..))
  have fr : (Obj.putName k (PyData.keyHash w.params k) (.str k s.toks) v (dictOf es n)).isFreed = false := by
    rw [pn]
    rfl
  rw [← pn]
  exact Heap.get?_update_self _ at_ fr
theorem fill_at {d : Addr} {Q : PUnit → Shared → Prop} : ∀ (ex : List (Str × Value)) (s : Shared) (es : List DictEntry) (n : Nat), s.heap.get? d = some (dictOf es n) → (∀ x ∈ ex, lacks es x.1) → byName es → (ex.map (·.1)).Nodup →
    (∀ h1 : Heap, h1.get? d = some (dictOf (es ++ kwEs w.params s.toks ex) (n + ex.length)) → Heap.SameBut d s.heap h1 → Q ⟨⟩ { s with heap := h1, toks := s.toks + ex.length }) →
    wpAny (model prog w) A (forIn ex PUnit.unit fun x _ => (nsSet d x.1 x.2 >>= fun _ => pure (ForInStep.yield PUnit.unit))) Q E s := by
  intro ex
  induction ex with
  | nil =>
    intro s es n at_ _ _ _ q
    rw [List.forIn_nil]
    refine wpAny_pure (q s.heap ?_ (Heap.SameBut.refl _ _))
    rw [show es ++ kwEs w.params s.toks [] = es from List.append_nil _]
    exact at_
  | cons x r ih =>
    intro s es n at_ l b nod q
    obtain ⟨nx, nr⟩ := List.nodup_cons.mp nod
    rw [List.forIn_cons]
    refine wpAny_bind (wpAny_bind (set_at at_ (l x (.head _)) b fun h1 a1 sb => wpAny_pure ?_))
    refine ih _ _ _ a1 (fun y hy e he => ?_) (fun e he => ?_) nr fun h2 a2 sb2 => ?_
    · rcases List.mem_append.mp he with he | he
      · exact l y (.tail _ hy) e he
      · cases List.mem_singleton.mp he
        refine beq_eq_false_iff_ne.mpr fun z => nx ?_
        show x.1 ∈ _
        rw [show x.1 = y.1 from z]
        exact List.mem_map_of_mem hy
    · rcases List.mem_append.mp he with he | he
      · exact b e he
      · cases List.mem_singleton.mp he
        rfl
    · have z := q h2 (by
        rw [List.append_assoc] at a2
        rw [show n + (x :: r).length = n + 1 + r.length by rw [List.length_cons]; omega]
        exact a2) (sb.trans sb2)
      rw [show s.toks + (x :: r).length = s.toks + 1 + r.length by rw [List.length_cons]; omega] at z
      exact z
theorem names_mix : ∀ (ex : List (Str × Value)) (t : Tok), Pairs (mixKind prog w) (kwEs w.params t ex) (ex.map fun x => ((Sum.inr x.1 : Key), x.2))
  | [], _ => .nil
  | x :: r, t => .cons (kV_is (k := Sum.inr x.1) ⟨t, rfl⟩) rfl (names_mix r (t + 1))
theorem names_dict {h : Heap} {d : Addr} {ex : List (Str × Value)} {t : Tok} {n : Nat} (at_ : h.get? d = some (dictOf (kwEs w.params t ex) n)) (nod : (ex.map (·.1)).Nodup) : h.DictOf (mixKind prog w) d (ex.map fun x => ((Sum.inr x.1 : Key), x.2)) := by
  refine ⟨_, (kwEs w.params t ex).toArray, n, at_, ⟨rfl, rfl, rfl⟩, rfl, fun e he => ?_, names_mix ex t, ?_⟩
  · obtain ⟨k, u, e1, e2⟩ := kwEs_key ex t e (List.mem_toArray.mp he)
    exact ⟨Sum.inr k, by rw [e1]; exact kV_is (k := Sum.inr k) ⟨u, rfl⟩, e2⟩
  · rw [List.map_map]
    have : ((fun x : Key × Value => x.1) ∘ fun x : Str × Value => ((Sum.inr x.1 : Key), x.2)) = (fun k : Str => (Sum.inr k : Key)) ∘ fun x => x.1 := rfl
    rw [this, ← List.map_map]
    exact List.Pairwise.map _ (fun a b ne e => ne (Sum.inr.inj e)) nod
end
end Mrg

set_option Elab.async false
set_option linter.all false
set_option maxRecDepth 100000
set_option maxHeartbeats 4000000
/-! How a def(self, **d) binds. -/
namespace Mrg
open PySem PySem.Spec PyProof.Rows PySem.W L2
section
variable {prog : Program} {w : World} {A : Around} {E : Value → Shared → Prop}
theorem forIn_yields {α β : Type} {f : α → β → Sem (ForInStep β)} {g : β → α → β} : ∀ (l : List α) (b : β), (∀ y ∈ l, ∀ b, f y b = pure (.yield (g b y))) → forIn l b f = (pure (l.foldl g b) : Sem β)
  | [], b, _ => List.forIn_nil ..
  | x :: r, b, h => by
    rw [List.forIn_cons, h x (.head _), pure_bind]
    exact forIn_yields r (g b x) fun y hy => h y (.tail _ hy)
theorem fold_ends {α : Type} (a : α) : ∀ (kw acc : List (Str × Value)), kw.foldl (fun (s : α × List (Str × Value)) y => (s.1, s.2 ++ [(y.1, y.2)])) (a, acc) = (a, acc ++ kw)
  | [], acc => by rw [List.append_nil]; rfl
  | x :: r, acc => by
    rw [List.foldl_cons, fold_ends a r]
    show (a, acc ++ [(x.1, x.2)] ++ r) = _
    rw [List.append_assoc]
    rfl
theorem bind_kw (qual : Str) (params : Arguments) (body : List Stmt) (scope : Scope) (kV doc pm : Value) (an : Option Addr) (cdv ct : Value) (nm : Str) (p1 pd : Str) (q1 q2 : Pos) (a1 a2 : Option Expr) (kd : List (Option Expr)) (df : List Expr)
   (hp : params = { posonlyargs := [], args := [⟨p1, a1, q1⟩], vararg := none, kwonlyargs := [], kw_defaults := kd, kwarg := some ⟨pd, a2, q2⟩, defaults := df })
   (x : Value) (kw : List (Str × Value)) (hk : ∀ y ∈ kw, y.1 ≠ p1) (hz : kw.length ≤ sizeLine) :
   bindArgs (fnOf nm qual params body scope .none kV doc pm an cdv ct) ⟨[x], kw⟩ = 
     ((alloc ({ cls := .type "dict", data := .dict #[] } : Obj) : Sem Addr) >>= fun d => forIn kw PUnit.unit (fun y _ => (nsSet d y.1 y.2 >>= fun _ => pure (ForInStep.yield PUnit.unit))) >>= fun _ => pure [(p1, x), (pd, Value.ref d)]) := by
  subst hp
  unfold bindArgs
  simp only [fnOf, List.map_cons, List.map_nil, List.nil_append, List.zip_cons_cons, List.zip_nil_right, List.length_cons, List.length_nil]
  rw [forIn_yields (g := fun s y => (s.1, s.2 ++ [(y.1, y.2)])) kw _ (fun y hy b => by
    have e : ([p1].contains y.1 || ([] : List Str).contains y.1) = false := by simpa using hk y hy
    rw [if_neg (by rw [e]; exact Bool.false_ne_true)]
    rfl), fold_ends, List.nil_append, pure_bind]
  simp [List.lookup, seqItems?, hz]
  rw [show notAStandIn Value.none = pure () from rfl, pure_bind, if_neg (by omega)]
end
end Mrg

set_option Elab.async false
set_option linter.all false
set_option maxRecDepth 100000
set_option maxHeartbeats 4000000
/-! A def(self, **d), called by keywords. -/
namespace Mrg
open PySem PySem.Spec PyProof.Rows PySem.W L2
section
variable {P : Program} {w : World} {K : PySem.W.Frag} {mg : Str → Option Value} {base : Heap} {A : Around} {outer : List Env} {s : Shared} {H : Hp}
/-- one object more, at the end of the heap -/
theorem env0_more {h1 : Heap} {t : Tok} {u : HO} (e0 : Env0 P w K mg base A outer s H) (kp : ∀ b x, s.heap.get? b = some x → h1.get? b = some x) (le : s.heap.objs.size ≤ h1.objs.size)
    (new : ObjOk P w (upd H s.heap.objs.size u) h1 s.heap.objs.size u) : Env0 P w K mg base A outer { s with heap := h1, toks := t } (upd H s.heap.objs.size u) where
  frames := e0.frames
  mod := e0.mod
  bs := fun b x e => ⟨kp b x (e0.bs b x e).1, by
    rw [upd_ne (Nat.ne_of_lt (Heap.lt_size (e0.bs b x e).1))]
    exact (e0.bs b x e).2⟩
  bsz := Nat.le_trans e0.bsz le
  funs := Heap.FunFrames.of_keeps (fun b x e _ => ⟨x, kp b x e, rfl⟩) e0.funs
  frf := fun b hb => by
    obtain ⟨_, x, hx, _⟩ := e0.funs.mem hb
    rw [upd_ne (Nat.ne_of_lt (Heap.lt_size hx))]
    exact e0.frf b hb
  hok := e0.hok.laid kp (Nat.le_refl _) new
  bare := e0.bare
/-- the entries by name -/
def nms (kvs : List (Str × V)) : List (Key × V) := kvs.map fun y => (Sum.inr y.1, y.2)
/-- the def at f, called with one value and keywords, keeps sp of the value and a new dict -/
def KwOk (P : Program) (w : World) (K : PySem.W.Frag) (mg : Str → Option Value) (base : Heap) (CX : CXT) (k : Nat) (f : Addr) (p1 : Str) (sp : Sp) : Prop :=
  ∀ (A : Around) (outer : List Env) (s : Shared) (H : Hp) (x : V) (u : Value) (kvs : List (Str × V)) (ws : List Value) (Q : VK) (E : XK), Room k A → Env0 P w K mg base A outer s H → RelV x u → Vals (kvs.map (·.2)) ws → (kvs.map (·.1)).Nodup →
    (∀ y ∈ kvs, y.1 ≠ p1) → kvs.length ≤ sizeLine → (∀ d, H d = none → d ≠ sysModules → sp [x, .ref d] (upd H d (.dK (nms kvs))) Q E) → codeAny (model P w) A (.call (.ref f) ⟨[u], (kvs.map (·.1)).zip ws⟩) (CR CX outer P w H s Q E) s
theorem kv_rel : ∀ {kvs : List (Str × V)} {ws : List Value}, Vals (kvs.map (·.2)) ws → KV (nms kvs) (((kvs.map (·.1)).zip ws).map fun x => ((Sum.inr x.1 : Key), x.2))
  | [], _, .nil => .nil
  | _ :: _, _, .cons r t => .cons ⟨rfl, r⟩ (kv_rel t)
theorem zip_fst : ∀ {kvs : List (Str × V)} {ws : List Value}, Vals (kvs.map (·.2)) ws → (((kvs.map (·.1)).zip ws).map (·.1)) = kvs.map (·.1)
  | [], _, .nil => rfl
  | _ :: _, _, .cons _ t => congrArg (List.cons _) (zip_fst t)
theorem fn_kw {CX : CXT} {k : Nat} {f : Addr} {nm qual : Str} {st : Stmt} {fd : FuncData} {N : List Str} {p1 pd : Str} {sp : Sp} (F : Fun K nm qual st f fd) (S : FnScope N [p1, pd] (defScope st)) (hCX : StX.CXUp CX)
    (hp : ∃ (q1 q2 : Pos) (a1 a2 : Option Expr) (kd : List (Option Expr)) (df : List Expr), defArgs st = { posonlyargs := [], args := [⟨p1, a1, q1⟩], vararg := none, kwonlyargs := [], kw_defaults := kd, kwarg := some ⟨pd, a2, q2⟩, defaults := df })
    (hbody : ∀ (cdv : Value) (A : Around) (outer : List Env) (s : Shared) (H : Hp) (vs : List V) (Q : VK) (E : XK), Room k (A.deeper (envOfC qual (defScope st) s.heap.objs.size f cdv)) → sp vs H Q E →
      ∃ t, PSs (cxOf CX P w K mg base N qual (defScope st) f cdv A outer s H E) (defBody st) t ∧ t { nx := fun _ H' => Q .non H', rt := Q } (start N vs) H) :
    KwOk P w K mg base CX (k + 1) f p1 sp := by
  intro A outer s H x u kvs ws Q E hr e0 rx rk nod hk hz hq
  obtain ⟨oc, od, kV, doc, pm, an, cdv, ct, osl, rfl, lk, hcd⟩ := F.ex
  obtain ⟨q1, q2, a1, a2, kd, df, hp⟩ := hp
  have hn : H s.heap.objs.size = none := e0.hok.fresh (Nat.le_refl _)
  have len : ((kvs.map (·.1)).zip ws).length = kvs.length := by
    have := congrArg List.length (zip_fst rk)
    simpa using this
  refine StX.run_bnd lk hcd S hr e0 (G := fun xs H2 => ∃ d, H d = none ∧ d ≠ sysModules ∧ xs = [x, .ref d] ∧ H2 = upd H d (.dK (nms kvs))) (fun A' Ex Q' h => ?_) fun s2 H2 xs ⟨d, hd, dn, ex, eH⟩ hr' => ?_
  · rw [bind_kw qual _ _ _ kV doc pm an cdv ct nm p1 pd q1 q2 a1 a2 kd df hp u _ (fun y hy => ?_) (by rw [len]; exact hz)]
    · have big := StX.env0_big e0
      refine wpAny_bind (wpAny_alloc (wpAny_bind (fill_at _ _ [] 0 (Heap.get?_push_size _ rfl) (fun _ _ _ e => nomatch e) (fun _ e => nomatch e) (by rw [zip_fst rk]; exact nod) fun h1 at1 sb => wpAny_pure ?_)))
      have kp : ∀ b o, s.heap.get? b = some o → h1.get? b = some o := fun b o e => (sb.2 b (Nat.ne_of_lt (Heap.lt_size e))).trans (Heap.get?_push_of_some _ e)
      have dd : h1.DictOf (mixKind P w) s.heap.objs.size (((kvs.map (·.1)).zip ws).map fun x => ((Sum.inr x.1 : Key), x.2)) := names_dict at1 (by rw [zip_fst rk]; exact nod)
      have new : ObjOk P w (upd H s.heap.objs.size (.dK (nms kvs))) h1 s.heap.objs.size (.dK (nms kvs)) := dk_new (by unfold nms; rw [List.length_map]; exact hz) (by simpa using Nat.ne_of_gt big) (kv_rel rk) dd
      have un : Un (frs outer) [] H (upd H s.heap.objs.size (.dK (nms kvs))) s.heap h1 := Un.laid kp (Nat.le_refl _) hn
      have e2 := env0_more (s := s) (t := s.toks + ((kvs.map (·.1)).zip ws).length) e0 kp (by rw [sb.1, show (s.heap.push ({ cls := .type "dict", data := .dict #[] } : Obj)).objs.size = s.heap.objs.size + 1 from Heap.size_push _ _]; exact Nat.le_succ _) new
      exact h _ _ [x, .ref s.heap.objs.size] [u, .ref s.heap.objs.size] e2 un rfl (fun e s' => hCX outer s H _ _ E e s' un kp rfl) (.cons rx (.cons rfl .nil)) rfl ⟨_, hn, Nat.ne_of_gt big, rfl, rfl⟩
    · have : y.1 ∈ kvs.map (·.1) := by
        rw [← zip_fst rk]
        exact List.mem_map_of_mem hy
      obtain ⟨z, hz', e⟩ := List.mem_map.mp this
      rw [← e]
      exact hk z hz'
  · subst ex eH
    exact hbody cdv A outer s2 _ _ Q E hr' (hq d hd dn)
end
end Mrg

set_option Elab.async false
set_option linter.all false
set_option maxRecDepth 100000
set_option maxHeartbeats 4000000
/-! What ** of a dict does: its entries go into another dict, one by one. -/
namespace Mrg
open PySem PySem.Spec PyProof.Rows L2
section
variable {prog : Program} {w : World} {κ : Type} [DecidableEq κ] {kd : KeyKind prog w κ} {A : Around} {E : Value → Shared → Prop} {s : Shared}
/-- one entry put into d -/
theorem put_at {d : Addr} {old : List (κ × Value)} {k : κ} {key v : Value} {Q : Unit → Shared → Prop} (is : kd.is k key = true) (m : s.heap.DictOf kd d old) (z : old.length ≤ sizeLine)
    (q : ∀ h1, h1.DictOf kd d (stored old k v) → Heap.SameBut d s.heap h1 → Q () { s with heap := h1 }) : wpAny (model prog w) A (dictPut d (kd.hash k) key v) Q E s := by
  obtain ⟨ob, arr, n, at_, ex, dat, ks, pr, nod⟩ := m
  have sz : arr.size ≤ sizeLine := by
    have a1 := pr.length
    rw [Array.length_toList] at a1
    omega
  have same : (arr.findIdx? fun e => kd.is k e.key) = old.findIdx? fun kv => decide (kv.1 = k) := by
    rw [← pr.findIdx k]
    cases arr
    simp
  unfold dictPut
  refine wpAny_bind (wpAny_dictFind_of is at_ dat ks ?_)
  cases fnd : arr.findIdx? fun e => kd.is k e.key with
  | none =>
    have no : ¬ (old.any fun x => decide (x.1 = k)) = true := by
      intro y
      obtain ⟨x, hx, ex⟩ := List.any_eq_true.mp y
      have n1 := List.findIdx?_eq_none_iff.mp (same.symm.trans fnd) x hx
      rw [n1] at ex
      cases ex
    have gone : k ∉ old.map (·.1) := fun y => by
      obtain ⟨x, hx, e⟩ := List.mem_map.mp y
      exact no (List.any_eq_true.mpr ⟨x, hx, decide_eq_true e⟩)
    have st : stored old k v = old ++ [(k, v)] := by
      unfold stored
      rw [if_neg no]
    refine wpAny_updateDictKeys (hz := sz) at_ dat (q _ ?_ (Heap.SameBut.update ..))
    rw [st]
    refine ⟨_, _, n + 1, Heap.get?_update_self _ at_ (Obj.isFreed_of_dict (Obj.data_mapDictKeys dat _)), ex.mapDictKeys _, Obj.data_mapDictKeys dat _, ks.push is _, ?_, ?_⟩
    · have a2 := pr.append is (kd.hash k) v
      cases arr
      simpa using a2
    · rw [List.map_append, List.nodup_append]
      refine ⟨nod, by simp, fun a ha b hb => ?_⟩
      obtain rfl : b = k := by simpa using hb
      intro e
      exact gone (e ▸ ha)
  | some i =>
    have yes : (old.any fun x => decide (x.1 = k)) = true := by
      obtain ⟨hi, h1, _⟩ := List.findIdx?_eq_some_iff_getElem.mp (same.symm.trans fnd)
      exact List.any_eq_true.mpr ⟨_, List.getElem_mem hi, h1⟩
    have st : stored old k v = old.map fun x => if x.1 = k then (x.1, v) else x := by
      unfold stored
      rw [if_pos yes]
    refine wpAny_updateDict at_ dat (q _ ?_ (Heap.SameBut.update ..))
    rw [st]
    refine ⟨_, _, n, Heap.get?_update_self _ at_ (Obj.isFreed_of_dict (Obj.data_mapDict dat _)), ex.mapDict _, Obj.data_mapDict dat _, ks.modify _ _, ?_, ?_⟩
    · have l : (arr.toList.findIdx? fun e => kd.is k e.key) = some i := by
        rw [← fnd]
        cases arr
        simp
      have a3 := pr.modify nod l v
      cases arr
      simpa using a3
    · rw [keys_map_store]
      exact nod
/-- the walk over the entries -/
theorem merge_tail {d o : Addr} {old more : List (κ × Value)} {u : Bool} {Q : Unit → Shared → Prop} (ne : d ≠ o) (hd : s.heap.DictOf kd d old) (ho : s.heap.DictOf kd o more) (hu : u = true → old = []) (z : old.length + more.length ≤ sizeLine)
    (q : ∀ h1, h1.DictOf kd d (merged old more) → h1.DictOf kd o more → Heap.SameBut d s.heap h1 → Q () { s with heap := h1 }) :
    wpAny (model prog w) A (do
      let l ← dictEntries o
      let epoch ← dictEpoch o
      forIn (List.range l.size) PUnit.unit fun i (_ : PUnit) => (do
        let now ← dictEntries o
        match now[i]? with
        | some e => do
          holding [e.key, e.val]
            (if u = true then do
              let r ← dictFind d e.key e.hash
              if r.isSome = true then do
                  rule "dict.merge.duplicate-key"
                  let x ← newExc (Value.type "KeyError") [e.key]
                  raiseNew x
                  dictPut d e.hash e.key e.val
                else dictPut d e.hash e.key e.val
            else dictPut d e.hash e.key e.val)
          let ep ← dictEpoch o
          if (ep != epoch) = true then do
              (unsupported "dict.changed-during-merge" : Sem PUnit)
              pure (ForInStep.yield PUnit.unit)
            else pure (ForInStep.yield PUnit.unit)
        | _ => do
          (unsupported "dict.changed-during-merge" : Sem PUnit)
          pure (ForInStep.yield PUnit.unit) : Sem (ForInStep PUnit))
      pure ()) Q E s := by
  obtain ⟨ob, arr, n, at_, ex, dat, ks, pr, nod⟩ := id ho
  have len : more.length = arr.size := by
    rw [← pr.length]
    exact Array.length_toList
  refine wpAny_bind (wpAny_dictEntries at_ dat (wpAny_bind (wpAny_dictEpoch at_ dat (wpAny_bind ?_))))
  rw [List.range_eq_range']
  refine wpAny_forIn_list _ (fun left _ s1 => ∃ (h1 : Heap) (i : Nat), s1 = { s with heap := h1 } ∧ left = List.range' i (arr.size - i) ∧ i ≤ arr.size ∧ h1.DictOf kd d (merged old (more.take i)) ∧ h1.get? o = some ob ∧ Heap.SameBut d s.heap h1) _ ?_ ?_ _ _
    ⟨s.heap, 0, rfl, rfl, Nat.zero_le _, hd, at_, Heap.SameBut.refl _ _⟩
  · rintro x left c s1 ⟨h1, i, rfl, el, hi, h1d, h1o, sb⟩
    have lt : i < arr.size := by
      rcases Nat.lt_or_ge i arr.size with y | y
      · exact y
      · rw [Nat.sub_eq_zero_of_le y] at el
        cases el
    have e1 : arr.size - i = (arr.size - (i + 1)) + 1 := by omega
    rw [e1, List.range'_succ] at el
    obtain ⟨rfl, rfl⟩ := List.cons.inj el
    refine wpAny_bind (wpAny_dictEntries h1o dat ?_)
    rw [Array.getElem?_eq_getElem lt]
    have lm : x < more.length := by omega
    have em : more[x]? = some more[x] := List.getElem?_eq_getElem lm
    obtain ⟨k1, v1⟩ := pr.get? (e := arr[x]) (by rw [Array.getElem?_toList, Array.getElem?_eq_getElem lt]) em
    obtain ⟨k', k2, hh⟩ := ks arr[x] (Array.getElem_mem lt)
    obtain rfl := kd.inj _ _ _ k2 k1
    dsimp only
    rw [hh, v1]
    have lz : (merged old (more.take x)).length ≤ sizeLine := by
      have a1 := merged_length_le old (more.take x)
      have a2 : (more.take x).length ≤ more.length := by
        rw [List.length_take]
        omega
      omega
    have fin : wpAny (model prog w) A (dictPut d (kd.hash more[x].1) arr[x].key more[x].2) (fun _ s2 => ∃ h2 : Heap, s2 = { s with heap := h2 } ∧ h2.DictOf kd d (merged old (more.take (x + 1))) ∧ h2.get? o = some ob ∧ Heap.SameBut d s.heap h2) E { s with heap := h1 } :=
      put_at k1 h1d lz fun h2 d2 sb2 => ⟨h2, rfl, by rw [merged_take_succ old more x more[x] em]; exact d2, (sb2.2 o (Ne.symm ne)).trans h1o, sb.trans sb2⟩
    refine wpAny_bind (wpAny_holding (wpAny_mono (Q := fun _ s2 => ∃ h2 : Heap, s2 = { s with heap := h2 } ∧ h2.DictOf kd d (merged old (more.take (x + 1))) ∧ h2.get? o = some ob ∧ Heap.SameBut d s.heap h2) ?_ (fun _ s2 y => ?_) fun _ _ y => y))
    · cases u with
      | false => exact fin
      | true =>
        obtain rfl := hu rfl
        obtain ⟨od, ard, nn, atd, exd, datd, ksd, prd, nodd⟩ := h1d
        rw [if_pos rfl]
        refine wpAny_bind (wpAny_dictFind_of k1 atd datd ksd ?_)
        have no : (ard.findIdx? fun e => kd.is more[x].1 e.key) = none := by
          have y : (ard.findIdx? fun e => kd.is more[x].1 e.key) = (merged [] (more.take x)).findIdx? fun kv => decide (kv.1 = more[x].1) := by
            rw [← prd.findIdx more[x].1]
            cases ard
            simp
          rw [y, List.findIdx?_eq_none_iff]
          intro p hp
          refine decide_eq_false fun e => ?_
          rw [merged_nil_of_nodup _ (by rw [List.map_take]; exact nod.sublist (List.take_sublist _ _))] at hp
          obtain ⟨j, hj, ej⟩ := List.getElem_of_mem hp
          rw [List.getElem_take] at ej
          have jx : j < x := by
            rw [List.length_take] at hj
            omega
          rw [← ej] at e
          exact List.pairwise_iff_getElem.mp nod j x (by rw [List.length_map]; omega) (by rw [List.length_map]; omega) jx (by rw [List.getElem_map, List.getElem_map]; exact e)
        rw [if_neg (show ¬ ((ard.findIdx? fun e => kd.is (more.get ⟨x, lm⟩).fst e.key).isSome = true) from by
          rw [show (ard.findIdx? fun e => kd.is (more.get ⟨x, lm⟩).fst e.key) = none from no]
          exact Bool.false_ne_true)]
        exact fin
    · obtain ⟨h2, rfl, d2, o2, sb2⟩ := y
      refine wpAny_bind (wpAny_dictEpoch o2 dat ?_)
      rw [if_neg (by simp)]
      exact wpAny_pure ⟨h2, x + 1, rfl, rfl, lt, d2, o2, sb2⟩
  · rintro c s1 ⟨h1, i, rfl, el, hi, h1d, h1o, sb⟩
    have ei : i = arr.size := by
      have y := congrArg List.length el
      rw [List.length_range'] at y
      simp at y
      omega
    subst ei
    refine wpAny_pure (q h1 ?_ ⟨ob, arr, n, h1o, ex, dat, ks, pr, nod⟩ sb)
    rw [← len, List.take_length] at h1d
    exact h1d
theorem merge_at {d o : Addr} {old more : List (κ × Value)} {u : Bool} {Q : Unit → Shared → Prop} (ne : d ≠ o) (ns : (o == sysModules) = false) (hd : s.heap.DictOf kd d old) (ho : s.heap.DictOf kd o more) (hu : u = true → old = []) (z : old.length + more.length ≤ sizeLine)
    (q : ∀ h1, h1.DictOf kd d (merged old more) → h1.DictOf kd o more → Heap.SameBut d s.heap h1 → Q () { s with heap := h1 }) : wpAny (model prog w) A (mergeMapping d (.ref o) u) Q E s := by
  obtain ⟨ob, arr, n, at_, ex, dat, ks, pr, nod⟩ := id ho
  obtain ⟨od, ard, nn, atd, exd, datd, ksd, prd, nodd⟩ := id hd
  unfold mergeMapping
  refine wpAny_bind (wpAny_isInstance ho.typeIs isSubtype_dict_dict ?_)
  simp only [if_true]
  refine wpAny_bind (wpAny_specialOf ho.typeIs F.slot_dict_iter.lookup (wpAny_bind (wpAny_pure ?_)))
  simp only [beq_self_eq_true]
  rw [if_neg (by rw [ns]; exact Bool.false_ne_true)]
  refine wpAny_bind (wpAny_dictEntries atd datd ?_)
  by_cases emp : ard.isEmpty = true
  · rw [if_pos emp]
    refine wpAny_bind (wpAny_dictEntries at_ dat (wpAny_bind ?_))
    rw [← Array.forIn_toList]
    refine wpAny_forIn_list _ (fun left _ s1 => s1 = s ∧ ∀ e ∈ left, e ∈ arr.toList) _ ?_ ?_ _ _ ⟨rfl, fun _ y => y⟩
    · rintro e left c s1 ⟨rfl, mem⟩
      obtain ⟨k, k1, _⟩ := ks e (Array.mem_toList_iff.mp (mem e (.head _)))
      have bv := kd.byValue k _ k1
      cases ek : e.key with
      | ref a =>
        rw [ek] at bv
        cases bv
      | _ => exact wpAny_pure ⟨rfl, fun x y => mem x (.tail _ y)⟩
    · rintro c s1 ⟨rfl, _⟩
      exact merge_tail ne hd ho hu z q
  · rw [if_neg emp]
    exact merge_tail ne hd ho hu z q
end
end Mrg

set_option Elab.async false
set_option linter.all false
set_option maxRecDepth 100000
set_option maxHeartbeats 4000000
/-! A call f(**d). -/
namespace Mrg
open PySem PySem.Spec PyProof.Rows PySem.W L2
section
variable {P : Program} {w : World} {A : Around} {E : Value → Shared → Prop} {s : Shared}
def nameOf : Value → Str
  | .str z _ => z
  | _ => ""
def byN (ex : List (Str × Value)) : List (Key × Value) := ex.map fun x => ((Sum.inr x.1 : Key), x.2)
theorem keys_named : ∀ {es : List DictEntry} {ex : List (Str × Value)}, Pairs (mixKind P w) es (byN ex) → (∀ e ∈ es, ∃ z t, e.key = .str z t) ∧ ∀ acc, es.foldl (fun (b : List (Str × Value)) e => b ++ [(nameOf e.key, e.val)]) acc = acc ++ ex
  | [], [], _ => ⟨fun _ h => (by cases h), fun acc => (List.append_nil acc).symm⟩
  | e :: es, x :: ex, h => by
    cases h with
    | cons a b t =>
      obtain ⟨i1, i2⟩ := keys_named t
      have kk : ∃ t, e.key = .str x.1 t := by
        rcases keyIs_shape (show keyIs (Sum.inr x.1 : Key) e.key = true from a) with ⟨i, t, q, _⟩ | ⟨z, t, q, q2⟩
        · cases q
        · cases q
          exact ⟨t, q2⟩
      obtain ⟨t1, ek⟩ := kk
      refine ⟨fun y hy => ?_, fun acc => ?_⟩
      · rcases List.mem_cons.mp hy with rfl | hy
        · exact ⟨_, _, ek⟩
        · exact i1 y hy
      · rw [List.foldl_cons, i2, ek, show e.val = x.2 from b]
        show acc ++ [(x.1, x.2)] ++ ex = _
        rw [List.append_assoc]
        rfl
theorem keywords_at {f : Value} {d : Addr} {ex : List (Str × Value)} {Q : List (Str × Value) → Shared → Prop} (m : s.heap.DictOf (mixKind P w) d (byN ex)) (q : Q ex s) : wpAny (model P w) A (keywordsIn f d) Q E s := by
  obtain ⟨ob, arr, n, at_, x1, dat, ks, pr, nod⟩ := m
  obtain ⟨k1, k2⟩ := keys_named pr
  unfold keywordsIn
  refine wpAny_bind (wpAny_dictEntries at_ dat ?_)
  rw [← Array.forIn_toList, forIn_yields (g := fun (b : List (Str × Value)) e => b ++ [(nameOf e.key, e.val)]) _ _ (fun e he b => by
    obtain ⟨z, t, ek⟩ := k1 e he
    rw [ek]
    rfl), k2, List.nil_append]
  exact wpAny_bind (wpAny_pure (wpAny_pure q))
theorem args_star {f : Value} {T : Sem Value} {Q : Args → Shared → Prop}
    (h : wpAny (model P w) A T (fun v s1 => ∃ (o : Addr) (ex : List (Str × Value)), v = .ref o ∧ s.heap.objs.size ≠ o ∧ (o == sysModules) = false ∧ s1.heap.DictOf (mixKind P w) s.heap.objs.size [] ∧ s1.heap.DictOf (mixKind P w) o (byN ex) ∧ ex.length ≤ sizeLine ∧
      ∀ h2 : Heap, Heap.SameBut s.heap.objs.size s1.heap h2 → h2.DictOf (mixKind P w) s.heap.objs.size (byN ex) → Q ⟨[], ex⟩ { s1 with heap := h2 }) E { s with heap := s.heap.push ({ cls := .type "dict", data := .dict #[] } : Obj) }) :
    wpAny (model P w) A (evalArgs f true [] [(none, T)]) Q E s := by
  unfold evalArgs
  refine wpAny_bind ?_
  refine Calls.spliced_nil (wpAny_bind (wpAny_pure (wpAny_holding ?_)))
  rw [if_neg (show ¬ ([((none : Option Str), T)].all fun x => x.1.isSome) = true from Bool.false_ne_true)]
  refine wpAny_bind ?_
  unfold mergedKeywords
  refine wpAny_bind (wpAny_alloc (wpAny_bind (wpAny_holding ?_)))
  show wpAny _ _ (forIn [((none : Option Str), T)] ([] : List (Str × Sem Value)) _ >>= _) _ _ _
  refine wpAny_bind ?_
  rw [List.forIn_cons]
  refine wpAny_bind ?_
  show wpAny _ _ ((pure () : Sem Unit) >>= fun _ => T >>= fun v => _) _ _ _
  refine wpAny_bind (wpAny_pure (wpAny_bind (wpAny_mono h (fun v s1 z => ?_) fun _ _ y => y)))
  obtain ⟨o, ex, rfl, ne, lo, hd, ho, hz, q⟩ := z
  have em : merged [] (byN ex) = byN ex := merged_nil_of_nodup _ (by
    obtain ⟨_, _, _, _, _, _, _, _, nod⟩ := ho
    exact nod)
  refine wpAny_bind (wpAny_onRaise (wpAny_holding (wpAny_tryCatch (wpAny_onRaise (merge_at (kd := mixKind P w) ne lo hd ho (fun _ => rfl) (by unfold byN; rw [List.length_map, List.length_nil]; omega) fun h2 d2 o2 sb => ?_)))))
  refine wpAny_pure ?_
  show wpAny _ _ (forIn ([] : List (Option Str × Sem Value)) _ _) _ _ _
  rw [List.forIn_nil]
  refine wpAny_pure ?_
  show wpAny _ _ (pure () : Sem Unit) _ _ _
  refine wpAny_pure (wpAny_pure ?_)
  refine wpAny_bind (wpAny_pure (wpAny_bind (wpAny_holding (keywords_at (P := P) (w := w) (ex := ex) ?_ (wpAny_pure (q h2 sb ?_))))))
  · rw [← em]
    exact d2
  · rw [← em]
    exact d2
/-- the call's node -/
theorem node_star {K : Frag} {f : Value} {T : Sem Value} {pos : Pos} {Q : Value → Shared → Prop} (hk : keepIn K f = true)
    (h : wpAny (model P w) A (evalArgs f true [] [(none, T)]) (fun a s1 => K.In s1.heap ∧ wpAny (model P w) A (call f a.pos a.kw) Q E s1) E s) : wpAny (model P w) A (callWith pos f [] [] [(none, T)]) Q E s := by
  unfold callWith
  refine wpAny_bind (wpAny_holding (wpAny_mono h (fun a s1 z => wpAny_bind (wpAny_standAt ?_)) fun _ _ y => y))
  obtain ⟨k, k1, k2⟩ := keeps_K (M := model P w) hk _ z.1
  refine wpAny_bind (k2.here ?_)
  have fin : ∀ {t : Sem Value}, wpAny (model P w) A t Q E s1 → wpAny (model P w) A (t >>= fun r => holding [r] point >>= fun _ => pure r) Q E s1 :=
    fun y => wpAny_bind (wpAny_mono y (fun r s2 y2 => wpAny_bind (wpAny_holding (wpAny_point (wpAny_pure y2)))) fun _ _ y2 => y2)
  rcases k1 with rfl | rfl | rfl
  · refine fin ?_
    show wpAny _ _ (callMarked _ f a.pos a.kw) _ _ _
    unfold callMarked
    exact Calls.wpAny_keep z.2
  · exact fin (wpAny_operating z.2)
  · exact fin (wpAny_operating z.2)
end
end Mrg

set_option Elab.async false
set_option linter.all false
set_option maxRecDepth 100000
set_option maxHeartbeats 4000000
/-! C(a = v, ..), C(**d) where C's __init__ takes **d. -/
namespace Mrg
open PySem PySem.Spec PyProof.Rows PySem.W L2
/-- a new instance of C at x with its dict at dx -/
def made (H : Hp) (C x dx : Addr) : Hp := upd (upd H dx (.own x)) x (.ins C dx [])
/-- what making such an instance asks at H -/
def MadeW (C : Addr) (sp : Sp) (E : XK) (kvs : List (Str × V)) (H : Hp) (Q : VK) : Prop := ∀ x dx, H x = none → H dx = none → dx ≠ x → ∀ d, made H C x dx d = none → d ≠ sysModules →
  sp [.ref x, .ref d] (upd (made H C x dx) d (.dK (nms kvs))) (fun v H2 => v = .non ∧ Q (.ref x) H2) E
structure Kws (p1 : Str) (kvs : List (Str × V)) : Prop where
  nod : (kvs.map (·.1)).Nodup
  no : ∀ y ∈ kvs, y.1 ≠ p1
  few : kvs.length ≤ sizeLine
section
variable {X : Cx} {CX : CXT} {k : Nat} {f C : Addr} {p1 : Str} {sp : Sp} {E : XK} {pins : List (Addr × Obj)} {σ : L2.St} {H : Hp} {s : Shared} {Q : VK}
theorem run_makeW {kvs : List (Str × V)} {ws : List Value} (M : Mk X.K C f) (F : KwOk X.prog X.w X.K X.mg X.base CX k f p1 sp) (hr : Room (k + 1) X.A) (hx : Passes CX X E) (I : Inv X pins σ H s) (rk : Vals (kvs.map (·.2)) ws) (hk : Kws p1 kvs) (h : MadeW C sp E kvs H Q) :
    wpAny (model X.prog X.w) X.A (call (.ref C) [] ((kvs.map (·.1)).zip ws)) (EP X pins σ Q) X.xe s := by
  have hq := h (s.heap.objs.size + 1) s.heap.objs.size (I.hok.fresh (Nat.le_succ _)) (I.hok.fresh (Nat.le_refl _)) (Nat.ne_of_lt (Nat.lt_succ_self _))
  have I2 := Inv.made (C := C) I
  refine wpAny_call (make_map (f := f) I.kIn M.makes M.init (beq_iff_eq.mp M.fn) (codeAny_mono (F _ X.stack _ _ (.ref (s.heap.objs.size + 1)) (.ref (s.heap.objs.size + 1)) kvs ws _ E (hr.make C [] _) (I2.env0.make C [] _) rfl rk hk.nod hk.no hk.few hq) fun r s1 z => ?_))
  cases r with
  | error e => exact hx pins σ _ _ e s1 I2 z
  | ok fl =>
    cases fl with
    | ret u =>
      obtain ⟨v, H1, I3, rv, ev, q⟩ := I2.after z
      subst ev
      exact ⟨rv, ⟨.ref (s.heap.objs.size + 1), H1, I3, rfl, q⟩⟩
    | next => exact False.elim z
    | brk => exact False.elim z
    | cont => exact False.elim z
theorem zip_names : ∀ {ks : List Str} {zs : List V}, zs.length = ks.length → (ks.zip zs).map (·.1) = ks ∧ (ks.zip zs).map (·.2) = zs
  | [], [], _ => ⟨rfl, rfl⟩
  | k :: ks, z :: zs, h => by
    obtain ⟨a, b⟩ := zip_names (ks := ks) (zs := zs) (Nat.succ.inj h)
    exact ⟨congrArg (List.cons k) a, congrArg (List.cons z) b⟩
variable {x : Str} {p pos q : Pos} {kws : List Keyword} {ks : List Str} {tk : TA} {e : Expr} {te : TE}
/-- C(a = v, ..) -/
def tMakeW (C : Addr) (p1 : Str) (ks : List Str) (sp : Sp) (E : XK) (tk : TA) : TE := fun σ H Q => tk σ H fun zs H1 => zs.length = ks.length ∧ Kws p1 (ks.zip zs) ∧ MadeW C sp E (ks.zip zs) H1 Q
theorem pe_makeW (M : Mk X.K C f) (F : KwOk X.prog X.w X.K X.mg X.base CX k f p1 sp) (hr : Room (k + 1) X.A) (hg : Gl X x) (hm : X.mg x = some (.ref C)) (hx : Passes CX X E) (hkw : PK X kws tk)
    (hall : (backToKw pos (keywordEach kws X.env)).all (·.1.isSome) = true := by rfl) (hks : (backToKw pos (keywordEach kws X.env)).filterMap (·.1) = ks := by rfl) (hdb : (x == ("__debug__" : Str)) = false := by decide)
    (hpl : ((backTo pos (starEach [] X.env)).any (·.1) || (backToKw pos (keywordEach kws X.env)).any (·.1.isNone)) = false := by rfl) :
    PE X (.Call (.Name x p) [] kws pos) (tMakeW C p1 ks sp E tk) := by
  refine ⟨fun pins s σ H Q I h => ?_⟩
  refine wpAny_Call_Name_kw (ld_glob I hg hm ?_ hdb)
  refine callWith_KW0 (h₀ := X.base) I.ok.mod.kin M.kp hall (thn (hkw.run pos pins s σ H _ I h) fun ws s1 ⟨zs, H1, I1, rz, l, hk, q⟩ => ⟨I1.kIn, ?_⟩) hpl
  rw [hks]
  obtain ⟨n1, n2⟩ := zip_names l
  have z := run_makeW M F hr hx I1 (kvs := ks.zip zs) (ws := ws) (by rw [n2]; exact rz) hk q
  rw [n1] at z
  exact z
/-- C(**e) -/
def tMakeD (C : Addr) (p1 : Str) (sp : Sp) (E : XK) (te : TE) : TE := fun σ H Q => ∀ g, H g = none → te σ (upd H g (.dK [])) fun v H1 => H1 g = some (.dK []) ∧ ∃ (o : Addr) (kvs : List (Str × V)), v = .ref o ∧ g ≠ o ∧ Rd H1 o (.dK (nms kvs)) ∧ Kws p1 kvs ∧
  MadeW C sp E kvs (upd H1 g (.dK (nms kvs))) Q
theorem kv_names : ∀ {kvs : List (Str × V)} {vs : List (Key × Value)}, KV (nms kvs) vs → ∃ ws, Vals (kvs.map (·.2)) ws ∧ vs = byN ((kvs.map (·.1)).zip ws)
  | [], [], _ => ⟨[], .nil, rfl⟩
  | y :: kvs, v :: vs, h => by
    cases h with
    | cons a t =>
      obtain ⟨ws, r, e⟩ := kv_names t
      obtain ⟨a1, a2⟩ := a
      refine ⟨v.2 :: ws, .cons a2 r, ?_⟩
      rw [e]
      show v :: _ = ((Sum.inr y.1 : Key), v.2) :: _
      rw [show (Sum.inr y.1 : Key) = v.1 from a1]
      rfl
theorem pe_makeD (M : Mk X.K C f) (F : KwOk X.prog X.w X.K X.mg X.base CX k f p1 sp) (hr : Room (k + 1) X.A) (hg : Gl X x) (hm : X.mg x = some (.ref C)) (hx : Passes CX X E) (he : PE X e te) (hdb : (x == ("__debug__" : Str)) = false := by decide) :
    PE X (.Call (.Name x p) [] [⟨none, e, q⟩] pos) (tMakeD C p1 sp E te) := by
  refine ⟨fun pins s σ H Q I h => ?_⟩
  refine wpAny_Call_Name_kw (ld_glob I hg hm ?_ hdb)
  show wpAny _ _ (callWith pos (.ref C) [] [] [(none, (do let v ← eval e X.env; standAt pos; pure v))]) _ _ _
  refine node_star M.kp (args_star ?_)
  have I0 : Inv X pins σ (upd H s.heap.objs.size (.dK [])) { s with heap := s.heap.push ({ cls := .type "dict", data := .dict #[] } : Obj) } :=
    I.laid (a := s.heap.objs.size) (o := .dK []) (t' := s.toks) (fun _ _ q => Heap.get?_push_of_some _ q) (Nat.le_refl _) (dk_empty s.heap I.big)
  refine wpAny_bind (thn (he.run pins _ σ _ _ I0 (h _ (I.hok.fresh (Nat.le_refl _)))) fun v s1 ⟨y, H1, I1, ry, hgd, o, kvs, ey, ne, rd, hk, hq⟩ => wpAny_bind (wpAny_standAt (wpAny_pure ?_)))
  subst ey
  obtain rfl : v = Value.ref o := ry
  obtain ⟨z, lo, vs, rel, dd⟩ := dk_rd I1.hok rd
  obtain ⟨z0, lo0, vs0, rel0, dd0⟩ := dk_of I1.hok hgd
  obtain ⟨ws, rw', rfl⟩ := kv_names rel
  have e0 : vs0 = [] := by
    cases rel0
    rfl
  subst e0
  refine ⟨o, (kvs.map (·.1)).zip ws, rfl, ne, lo, dd0, dd, ?_, fun h2 sb d2 => ⟨?_, ?_⟩⟩
  · have := congrArg List.length (zip_fst rw')
    simp only [List.length_map] at this
    rw [this]
    exact hk.few
  all_goals
    have I2 : Inv X pins σ (upd H1 s.heap.objs.size (.dK (nms kvs))) { s1 with heap := h2 } := d_write (t' := s1.toks) I1 (by rw [hgd]; exact True.intro) sb (let ⟨q, _, _, hq, _⟩ := d2; ⟨q, hq⟩) (dk_new z lo0 rel d2)
  · exact I2.kIn
  · exact run_makeW M F hr hx I2 rw' hk hq
end
end Mrg

set_option Elab.async false
set_option linter.all false
set_option maxRecDepth 100000
set_option maxHeartbeats 4000000
/-! Side.__init__. -/
namespace Fk
open PySem PySem.Spec PyProof.Rows L2 EvP Cm
/-- more built-ins that are still themselves -/
structure Blt2 (mg : Str → Option Value) : Prop where
  sorted : mg "sorted" = none
  tuple : mg "tuple" = none
  sum : mg "sum" = none
/-- the class Side -/
structure SideC (K : PySem.W.Frag) (C : Addr) : Prop where
  cl : Cls K C
  nN : NoAttr K C "names"
  nT : NoAttr K C "total"
  nA : NoAttr K C "_amounts"
  nR : NoAttr K C "_rows"
/-- the side at a tells just ts -/
structure SideAt (C : Addr) (H : Hp) (a : Addr) (ts : Row) : Prop where
  ex : ∃ (dx n d r : Addr) (rows : List V), H a = some (.ins C dx [("names", .ref n), ("total", .int (ts.map (·.2)).sum), ("_amounts", .ref d), ("_rows", .ref r)]) ∧ H n = some (.tup (ts.map fun t => V.str t.1)) ∧ H d = some (.dK (ents ts)) ∧
    H r = some (.tup rows) ∧ All2 H (ts.map fun t => tupV [.str t.1, .int t.2]) rows
theorem SideAt.mono {C : Addr} {H H' : Hp} {a : Addr} {ts : Row} (e : Ex H H') (h : SideAt C H a ts) : SideAt C H' a ts := by
  obtain ⟨dx, n, d, r, rows, h1, h2, h3, h4, h5⟩ := h
  exact ⟨dx, n, d, r, rows, e _ _ h1, e _ _ h2, e _ _ h3, e _ _ h4, h5.ex e⟩
/-- the same, its dict of amounts new over H0 -/
def SideN (C : Addr) (H0 H : Hp) (a : Addr) (ts : Row) : Prop :=
  ∃ (dx n d r : Addr) (rows : List V), H a = some (.ins C dx [("names", .ref n), ("total", .int (ts.map (·.2)).sum), ("_amounts", .ref d), ("_rows", .ref r)]) ∧ H n = some (.tup (ts.map fun t => V.str t.1)) ∧ H d = some (.dK (ents ts)) ∧
    H r = some (.tup rows) ∧ All2 H (ts.map fun t => tupV [.str t.1, .int t.2]) rows ∧ H0 d = none
theorem SideN.at {C : Addr} {H0 H : Hp} {a : Addr} {ts : Row} (h : SideN C H0 H a ts) : SideAt C H a ts := by
  obtain ⟨dx, n, d, r, rows, h1, h2, h3, h4, h5, _⟩ := h
  exact ⟨dx, n, d, r, rows, h1, h2, h3, h4, h5⟩
theorem SideN.mono {C : Addr} {H0 H H' : Hp} {a : Addr} {ts : Row} (e : Ex H H') (h : SideN C H0 H a ts) : SideN C H0 H' a ts := by
  obtain ⟨dx, n, d, r, rows, h1, h2, h3, h4, h5, h6⟩ := h
  exact ⟨dx, n, d, r, rows, e _ _ h1, e _ _ h2, e _ _ h3, e _ _ h4, h5.ex e, h6⟩
theorem SideN.back {C : Addr} {H0 H1 H : Hp} {a : Addr} {ts : Row} (e : Ex H0 H1) (h : SideN C H1 H a ts) : SideN C H0 H a ts := by
  obtain ⟨dx, n, d, r, rows, h1, h2, h3, h4, h5, h6⟩ := h
  exact ⟨dx, n, d, r, rows, h1, h2, h3, h4, h5, e.back h6⟩
/-- amounts by name, good ones -/
structure Good (kvs : Row) : Prop where
  nod : (kvs.map (·.1)).Nodup
  nm : ∀ t ∈ kvs, NameV (.str t.1)
  am : ∀ t ∈ kvs, 0 ≤ t.2
  few : kvs.length < 64
def spInit (C : Addr) : Sp := fun vs H Q _ => ∃ (x d dx : Addr) (kvs : Row), vs = [.ref x, .ref d] ∧ H x = some (.ins C dx []) ∧ H d = some (.dK (ents kvs)) ∧ Good kvs ∧
  ∀ H', (∀ b o, H b = some o → b ≠ x → H' b = some o) → SideN C H H' x (told kvs) → Q .non H'
theorem scInit : FnScope ["side_itself", "amounts", "keywords", "name"] ["side_itself", "amounts"] (defScope sInit) := ⟨rfl, rfl, rfl, by decide +kernel, rfl, by decide +kernel, by decide +kernel⟩
abbrev NI : List Str := ["side_itself", "amounts", "keywords", "name"]
section
variable {K : PySem.W.Frag} {te ta : TE} {σ : L2.St} {H : Hp} {P : PR} {sp : Sp} {dvs : List V} {E : XK} {u : TS} {D : Ends} {f : Str}
theorem st_call (h : EvP.Gives te σ H P) (k : ∀ v H1, Ex H H1 → P.R v H1 → sp ([v] ++ dvs) H1 (fun _ H' => u D σ H') E) : tSeq (tDrop (tCall sp dvs E (tCons te tNil))) u D σ H := h H (Ex.refl H) _ k
theorem st_fld {i : Nat} (h : EvP.Gives te σ H P) (k : ∀ v H1, Ex H H1 → P.R v H1 → ∃ a C dx fs, σ[i]? = some (some (.ref a)) ∧ H1 a = some (.ins C dx fs) ∧ Cls K C ∧ NoAttr K C f ∧ fs.length < 1000 ∧ u D σ (upd H1 a (.ins C dx (putF f v fs)))) :
    tSeq (sFld K (tVar i) te f) u D σ H := h H (Ex.refl H) _ fun v H1 e r => by
  obtain ⟨a, C, dx, fs, h1, h2, h3, h4, h5, h6⟩ := k v H1 e r
  exact ⟨_, h1, a, C, dx, fs, rfl, h2, h3, h4, h5, h6⟩
theorem st_fld1 {i : Nat} (h : EvP.Gives te σ H P) (k : ∀ v H1, Ex H H1 → P.R v H1 → ∃ a C dx fs, σ[i]? = some (some (.ref a)) ∧ H1 a = some (.ins C dx fs) ∧ Cls K C ∧ NoAttr K C f ∧ fs.length < 1000 ∧ D.nx σ (upd H1 a (.ins C dx (putF f v fs)))) :
    sFld K (tVar i) te f D σ H := h H (Ex.refl H) _ fun v H1 e r => by
  obtain ⟨a, C, dx, fs, h1, h2, h3, h4, h5, h6⟩ := k v H1 e r
  exact ⟨_, h1, a, C, dx, fs, rfl, h2, h3, h4, h5, h6⟩
theorem g_fld {i : Nat} {a C dx : Addr} {fs : List (Str × V)} {v : V} (hi : σ[i]? = some (some (.ref a))) (ha : H a = some (.ins C dx fs)) (c : Cls K C) (n : NoAttr K C f) (l : fs.lookup f = some v) (hp : P.R v H) : EvP.Gives (tFld K (tVar i) f) σ H P :=
  fun H1 e Q q => ⟨_, hi, a, C, dx, fs, v, rfl, e _ _ ha, c, n, l, q _ _ (Ex.refl H1) (P.mono _ _ _ e hp)⟩
end
/-- a name's amount, by value -/
def amtV (kvs : Row) : V → V
  | .str n => .int (amt kvs n)
  | _ => .non
def posV (kvs : Row) : V → Bool
  | .str n => decide (0 < amt kvs n)
  | _ => false
def rowP (kvs : Row) : V → PR
  | .str n => tupV [.str n, .int (amt kvs n)]
  | _ => is .non
/-- the names that are told -/
def tns (kvs : Row) : List Str := (srt (kvs.map (·.1))).filter fun n => decide (0 < amt kvs n)
theorem told_eq (kvs : Row) : told kvs = (tns kvs).map fun n => (n, amt kvs n) := by
  unfold told asc tns
  rw [List.filter_map]
  rfl
theorem pos_names (kvs : Row) : ((srt (kvs.map (·.1))).map V.str).filter (posV kvs) = (tns kvs).map V.str := by
  rw [List.filter_map]
  rfl
theorem told_names (kvs : Row) : ((told kvs).map fun t => V.str t.1) = (tns kvs).map V.str := by
  rw [told_eq, List.map_map]
  rfl
theorem told_ents (kvs : Row) : ents (told kvs) = (tns kvs).map fun n => ((Sum.inr n : Key), amtV kvs (.str n)) := by
  unfold ents
  rw [told_eq, List.map_map]
  rfl
theorem told_rows (kvs : Row) : ((told kvs).map fun t => tupV [V.str t.1, .int t.2]) = ((tns kvs).map V.str).map (rowP kvs) := by
  rw [told_eq, List.map_map, List.map_map]
  rfl
theorem sum_pos (g : Str → Int) : ∀ l : List Str, (∀ n ∈ l, 0 ≤ g n) → (l.map g).sum = ((l.filter fun n => decide (0 < g n)).map g).sum
  | [], _ => rfl
  | n :: r, h => by
    have ih := sum_pos g r fun m hm => h m (.tail _ hm)
    have h0 := h n (.head _)
    by_cases p : 0 < g n
    · rw [List.filter_cons, decide_eq_true p, if_pos rfl, List.map_cons, List.map_cons, List.sum_cons, List.sum_cons, ih]
    · rw [List.filter_cons, decide_eq_false p, if_neg Bool.false_ne_true, List.map_cons, List.sum_cons, ih]
      omega
theorem told_sum (kvs : Row) (h : ∀ n ∈ kvs.map (·.1), 0 ≤ amt kvs n) : ((srt (kvs.map (·.1))).map (amt kvs)).sum = ((told kvs).map (·.2)).sum := by
  rw [sum_pos _ _ fun n hn => h n (mem_srt.mp hn), told_eq, List.map_map]
  rfl
theorem ents_keys (kvs : Row) : ((ents kvs).map fun x => kV x.1) = (kvs.map (·.1)).map V.str := by
  unfold ents
  rw [List.map_map, List.map_map]
  rfl
theorem Gives.imp {te : TE} {σ : L2.St} {H : Hp} {Q R : PR} (h : EvP.Gives te σ H Q) (k : ∀ v H, Q.R v H → R.R v H) : EvP.Gives te σ H R := fun H1 e q z => h H1 e q fun v H2 e2 hv => z v H2 e2 (k _ _ hv)
theorem tup_is {xs : List V} {v : V} {H : Hp} (h : (tup (xs.map is)).R v H) : (tupV xs).R v H := by
  obtain ⟨a, ws, ev, ha, hs⟩ := h
  exact ⟨a, ev, by rw [← all2_is hs]; exact ha⟩
theorem rows_stay {H : Hp} {x : Addr} {o o' : HO} (hx : H x = some o) (ho : ∀ ys, o ≠ .tup ys) : ∀ {ts : Row} {vs : List V}, All2 H (ts.map fun t => tupV [V.str t.1, .int t.2]) vs → All2 (upd H x o') (ts.map fun t => tupV [V.str t.1, .int t.2]) vs
  | [], _, .nil => .nil
  | t :: ts, _, .cons ⟨a, ev, ha⟩ r => .cons ⟨a, ev, by
    rw [upd_ne (fun z => by
      rw [z, hx] at ha
      exact ho _ (Option.some.inj ha))]
    exact ha⟩ (rows_stay hx ho r)
section
variable {P : Program} {w : World} {K : PySem.W.Frag} {mg : Str → Option Value} {base : Heap} {C f fN fA : Addr} {fd fdN fdA : FuncData}
theorem ok_init (F : Fun K "__init__" "Side.__init__" sInit f fd) (S : SideC K C) (T : Blt mg) (T2 : Blt2 mg) (G : FnOk P w K mg base CX0 2 fN fdN ["values"] (spAll K NameV)) (bN : Binds K fdN ["values"] []) (gN : mg "check_names" = some (.ref fN)) (kN : PySem.W.keepIn K (.ref fN) = true)
    (GA : FnOk P w K mg base CX0 3 fA fdA ["values"] (spAll K AmtV)) (bA : Binds K fdA ["values"] []) (gA : mg "check_amounts" = some (.ref fA)) (kA : PySem.W.keepIn K (.ref fA) = true) :
    Mrg.KwOk P w K mg base CX0 4 f "side_itself" (spInit C) := by
  have nd := scInit.nd
  refine Mrg.fn_kw (k := 3) F scInit StX.cxUp_none ⟨_, _, _, _, _, _, rfl⟩ fun cdv A outer s H vs Q E hr h => ?_
  obtain ⟨x, d, dx, kvs, rfl, hx, hd, gd, q⟩ := h
  have hu := hu_of hr
  refine ⟨_, pss_cons (ps_set (i := 2) nd rfl (Or.inl rfl) (pe_callB cr_sortedS (by rfl) T2.sorted (by decide +kernel) (pa_cons (pe_lock (pe_lc (own := [("name", 3)]) (g := gName 3) (tt := tYes) rfl nd (pi_keys (pv 1)) (blkOk_by (N := NI) (sc := defScope sInit) (by decide +kernel))
        (fun _ _ _ _ _ => pg_name (i := 3) nd rfl (Or.inl rfl)) (fun _ _ _ _ _ => pts_nil) (fun _ _ _ _ _ => pe_callTy (T := "str") SkE.call_str_str (by rfl) T.str (by decide +kernel) (pa_cons (pv 3) pa_nil)))) pa_nil)))
    (pss_cons (ps_expr (pe_call G (hr.mono (by decide)) (by rfl) gN kN bN .nil pass0 (pa_cons (pv 2) pa_nil)))
    (pss_cons (ps_expr (pe_call GA hr (by rfl) gA kA bA .nil pass0 (pa_cons (pe_lc (own := [("name", 3)]) (g := gName 3) (tt := tYes) (te := tDGet (tVar 1) (tVar 3)) rfl nd (pi_list (pv 2)) (blkOk_by (N := NI) (sc := defScope sInit) (by decide +kernel))
        (fun _ _ _ _ _ => pg_name (i := 3) nd rfl (Or.inl rfl)) (fun _ _ _ _ _ => pts_nil) (fun _ _ _ _ _ => pe_dget hu (pv 1) (pv 3) (fun _ _ => rfl))) pa_nil)))
    (pss_cons (ps_fld (pv 0) (pe_tupleOf (by rfl) T2.tuple (pe_lc (own := [("name", 3)]) (g := gName 3) (tt := tTest (tOp (rI0 fun i j => .bl (decide (j < i))) (tDGet (tVar 1) (tVar 3)) (tC (.int 0)))) (te := tVar 3) rfl nd (pi_list (pv 2)) (blkOk_by (N := NI) (sc := defScope sInit) (by decide +kernel))
        (fun _ _ _ _ _ => pg_name (i := 3) nd rfl (Or.inl rfl)) (fun _ _ _ _ _ => pts_one (pt_cmpR op_gt (pe_dget hu (pv 1) (pv 3) (fun _ _ => rfl)) pe_int (nomark _))) (fun _ _ _ _ _ => pv 3))) rfl)
    (pss_cons (ps_fld (pv 0) (pe_callB (cr_sum rfl) (by rfl) T2.sum (by decide +kernel) (pa_cons (pe_lc (own := [("name", 3)]) (g := gName 3) (tt := tYes) (te := tDGet (tVar 1) (tVar 3)) rfl nd (pi_list (pv 2)) (blkOk_by (N := NI) (sc := defScope sInit) (by decide +kernel))
        (fun _ _ _ _ _ => pg_name (i := 3) nd rfl (Or.inl rfl)) (fun _ _ _ _ _ => pts_nil) (fun _ _ _ _ _ => pe_dget hu (pv 1) (pv 3) (fun _ _ => rfl))) pa_nil)) rfl)
    (pss_cons (ps_fld (pv 0) (pe_dc (own := [("name", 3)]) (g := gName 3) (tt := tYes) (tk := tVar 3) (tv := tDGet (tVar 1) (tVar 3)) rfl nd (pi_tup (pe_fld (pv 0) rfl)) (blkOk_by (N := NI) (sc := defScope sInit) (by decide +kernel))
        (fun _ _ _ _ _ => pg_name (i := 3) nd rfl (Or.inl rfl)) (fun _ _ _ _ _ => pts_nil) (fun _ _ _ _ _ => pv 3) (fun _ _ _ _ _ => pe_dget hu (pv 1) (pv 3) (fun _ _ => rfl))) rfl)
    (pss_one (ps_fld (pv 0) (pe_tupleOf (by rfl) T2.tuple (pe_lc (own := [("name", 3)]) (g := gName 3) (tt := tYes) (te := tTup (tCons (tVar 3) (tCons (tDGet (tVar 1) (tVar 3)) tNil))) rfl nd (pi_tup (pe_fld (pv 0) rfl)) (blkOk_by (N := NI) (sc := defScope sInit) (by decide +kernel))
        (fun _ _ _ _ _ => pg_name (i := 3) nd rfl (Or.inl rfl)) (fun _ _ _ _ _ => pts_nil) (fun _ _ _ _ _ => pe_tup (pa_cons (pv 3) (pa_cons (pe_dget hu (pv 1) (pv 3) (fun _ _ => rfl)) pa_nil))))) rfl))))))), ?_⟩
  have few : kvs.length ≤ 1000 := Nat.le_trans (Nat.le_of_lt gd.few) (by decide)
  have inn : ∀ {n}, n ∈ srt (kvs.map (·.1)) → n ∈ kvs.map (·.1) := fun h => mem_srt.mp h
  have am0 : ∀ n ∈ kvs.map (·.1), 0 ≤ amt kvs n := fun n hn => gd.am _ (amt_of hn).2
  have len : (srt (kvs.map (·.1))).length = kvs.length := by rw [(srt_perm _).length_eq, List.length_map]
  have lenV : ((srt (kvs.map (·.1))).map V.str).length ≤ 1000 := by rw [List.length_map, len]; exact few
  have lenT : (tns kvs).length ≤ 1000 := Nat.le_trans (List.length_filter_le _ _) (by rw [len]; exact few)
  have nodT : (tns kvs).Nodup := ((srt_perm (kvs.map (·.1))).nodup_iff.mpr gd.nod).sublist List.filter_sublist
  have dx' : d ≠ x := ne_of hd hx (fun z => nomatch z)
  -- d[n]
  have get : ∀ (n : Str), n ∈ kvs.map (·.1) → ∀ (H1 : Hp) (o2 : Option V), H1 d = some (.dK (ents kvs)) → EvP.Gives (tDGet (tVar 1) (tVar 3)) [some (.ref x), some (.ref d), o2, some (.str n)] H1 (is (.int (amt kvs n))) := fun n hn H1 o2 h1 =>
    g_get (k := Sum.inr n) rfl rfl h1 (by rw [valV_ents, (amt_of hn).1]; rfl)
  -- keywords
  refine' EvP.st_set ?h1 ?k1
  case h1 =>
    exact (g_sorted (ss := kvs.map (·.1)) (by
      rw [← ents_keys]
      refine comp_keys (m := 1) (d := d) (kvs := ents kvs) kV rfl hd (by unfold ents; rw [List.length_map]; exact few) (fun _ => rfl) fun y hy H1 Q h => ?_
      obtain ⟨t, _, rfl⟩ := List.mem_map.mp hy
      exact ⟨_, rfl, _, rfl, h⟩) (by rw [List.length_map]; exact gd.few))
  intro v1 H1 e1 ⟨a, ev, ha⟩
  subst ev
  have hd1 := e1 _ _ hd
  -- check_names(keywords)
  refine ⟨_, rfl, a, _, rfl, SqL.of ha, fun y hy => ?_, ?_⟩
  · obtain ⟨n, hn, rfl⟩ := List.mem_map.mp hy
    obtain ⟨t, ht, rfl⟩ := List.mem_map.mp (inn hn)
    exact gd.nm t ht
  -- check_amounts([..])
  dsimp only
  refine' st_call ?h2 ?k2
  case h2 =>
    refine comp_is (fun _ => true) (amtV kvs) (walks_list (EvP.varP rfl ⟨a, rfl, ha⟩)) lenV (fun _ => rfl) (fun _ _ H2 _ Q h => h) (fun y hy _ => ?_)
    obtain ⟨n, hn, rfl⟩ := List.mem_map.mp hy
    exact get n (inn hn) H1 _ hd1
  intro v2 H2 e2 ⟨b, ev, hb⟩
  subst ev
  refine ⟨b, _, rfl, SqL.of hb, fun y hy => ?_, ?_⟩
  · obtain ⟨z, hz, rfl⟩ := List.mem_map.mp hy
    obtain ⟨n, hn, rfl⟩ := List.mem_map.mp (List.mem_filter.mp hz).1
    exact ⟨_, rfl, am0 n (inn hn)⟩
  have e12 := e1.trans e2
  have hd2 := e12 _ _ hd
  have ha2 := e2 _ _ ha
  -- names
  dsimp only
  refine' st_fld ?h3 ?k3
  case h3 =>
    refine g_tupV (comp_is (posV kvs) id (walks_list (EvP.varP rfl ⟨a, rfl, ha2⟩)) lenV (fun _ => rfl) (fun y hy H3 e3 Q h => ?_) (fun y hy _ => EvP.var rfl))
    obtain ⟨m, hm, rfl⟩ := List.mem_map.mp hy
    exact ⟨_, rfl, _, rfl, d, .int (amt kvs m), rfl, (by rw [show some (V.int (amt kvs m)) = valV (ents kvs) (Sum.inr m) by rw [valV_ents, (amt_of (inn hm)).1]; rfl]; exact DGet.k (k := Sum.inr m) (e3 _ _ hd2)), amt kvs m, 0, rfl, rfl, _, rfl, h⟩
  intro v3 H3 e3 ⟨n, ev, hn⟩
  subst ev
  rw [List.map_id, pos_names] at hn
  have e123 := e12.trans e3
  have hx3 := e123 _ _ hx
  have ax : a ≠ x := ne_of (e3 _ _ ha2) hx3 (fun z => nomatch z)
  have nx : n ≠ x := ne_of hn hx3 (fun z => nomatch z)
  refine ⟨x, C, dx, [], rfl, hx3, S.cl, S.nN, by decide, ?_⟩
  have k3 : ∀ b o, H3 b = some o → b ≠ x → upd H3 x (.ins C dx (putF "names" (.ref n) [])) b = some o := fun b o h ne => by
    rw [upd_ne ne]
    exact h
  have f3 := upd_same (H := H3) (a := x) (o := .ins C dx (putF "names" (.ref n) []))
  have hd3 := k3 _ _ (e123 _ _ hd) dx'
  have ha3 := k3 _ _ (e3 _ _ ha2) ax
  have hn3 := k3 _ _ hn nx
  generalize upd H3 x (.ins C dx (putF "names" (.ref n) [])) = G3 at k3 f3 hd3 ha3 hn3 ⊢
  -- total
  refine' st_fld ?h4 ?k4
  case h4 =>
    refine g_sum (ns := (srt (kvs.map (·.1))).map (amt kvs)) ?_
    have eq : (((srt (kvs.map (·.1))).map V.str).filter fun _ => true).map (amtV kvs) = ((srt (kvs.map (·.1))).map (amt kvs)).map V.int := by
      rw [List.filter_eq_self.mpr (fun _ _ => rfl), List.map_map, List.map_map]
      rfl
    rw [← eq]
    refine comp_is (fun _ => true) (amtV kvs) (walks_list (EvP.varP rfl ⟨a, rfl, ha3⟩)) lenV (fun _ => rfl) (fun _ _ H2 _ Q h => h) (fun y hy _ => ?_)
    obtain ⟨n, hn, rfl⟩ := List.mem_map.mp hy
    exact get n (inn hn) G3 _ hd3
  intro v4 H4 e4 ev
  subst ev
  have f4 := e4 _ _ f3
  refine ⟨x, C, dx, _, rfl, f4, S.cl, S.nT, by show 1 < 1000; decide, ?_⟩
  have k4 : ∀ b o, G3 b = some o → b ≠ x → upd H4 x (.ins C dx (putF "total" (.int ((srt (kvs.map (·.1))).map (amt kvs)).sum) (putF "names" (.ref n) []))) b = some o := fun b o h ne => by
    rw [upd_ne ne]
    exact e4 _ _ h
  have f5 := upd_same (H := H4) (a := x) (o := .ins C dx (putF "total" (.int ((srt (kvs.map (·.1))).map (amt kvs)).sum) (putF "names" (.ref n) [])))
  have hd4 := k4 _ _ hd3 dx'
  have hn4 := k4 _ _ hn3 nx
  generalize upd H4 x (.ins C dx (putF "total" (.int ((srt (kvs.map (·.1))).map (amt kvs)).sum) (putF "names" (.ref n) []))) = G4 at k4 f5 hd4 hn4 ⊢
  -- _amounts
  refine' st_fld ?h5 ?k5
  case h5 =>
    exact comp_dict (ss := tns kvs) (fun m => amtV kvs (.str m)) (g_fld rfl f5 S.cl S.nN rfl (⟨n, rfl, hn4⟩ : (tupV ((tns kvs).map V.str)).R (.ref n) G4)) lenT nodT (by show 3 < 4; decide) (fun _ => rfl) (fun m hm => get m (inn (List.mem_filter.mp hm).1) G4 _ hd4)
  intro v5 H5 e5 ⟨g, ev, hg, ng⟩
  subst ev
  rw [← told_ents] at hg
  have newg : H g = none := by
    cases hz : H g with
    | none => rfl
    | some o =>
      exfalso
      by_cases gx : g = x
      · rw [gx, f5] at ng
        cases ng
      · rw [k4 _ _ (k3 _ _ (e123 _ _ hz) gx) gx] at ng
        cases ng
  have f6 := e5 _ _ f5
  have gx : g ≠ x := ne_of hg f6 (fun z => nomatch z)
  refine ⟨x, C, dx, _, rfl, f6, S.cl, S.nA, by show 2 < 1000; decide, ?_⟩
  have k5 : ∀ b o, H5 b = some o → b ≠ x → upd H5 x (.ins C dx (putF "_amounts" (.ref g) (putF "total" (.int ((srt (kvs.map (·.1))).map (amt kvs)).sum) (putF "names" (.ref n) [])))) b = some o := fun b o h ne => by
    rw [upd_ne ne]
    exact h
  have f7 := upd_same (H := H5) (a := x) (o := .ins C dx (putF "_amounts" (.ref g) (putF "total" (.int ((srt (kvs.map (·.1))).map (amt kvs)).sum) (putF "names" (.ref n) []))))
  have hd5 := k5 _ _ (e5 _ _ hd4) dx'
  have hn5 := k5 _ _ (e5 _ _ hn4) nx
  have hg5 := k5 _ _ hg gx
  generalize upd H5 x (.ins C dx (putF "_amounts" (.ref g) (putF "total" (.int ((srt (kvs.map (·.1))).map (amt kvs)).sum) (putF "names" (.ref n) [])))) = G5 at k5 f7 hd5 hn5 hg5 ⊢
  -- _rows
  refine' st_fld1 ?h6 ?k6
  case h6 =>
    refine g_tup (comp (fun _ => true) (rowP kvs) (walks_tup (g_fld rfl f7 S.cl S.nN rfl (⟨n, rfl, hn5⟩ : (tupV ((tns kvs).map V.str)).R (.ref n) G5))) (by rw [List.length_map]; exact lenT) (fun _ => rfl) (fun _ _ H2 _ Q h => h) (fun y hy _ => ?_) (fun y hy => ?_))
    · obtain ⟨m, hm, rfl⟩ := List.mem_map.mp hy
      exact Gives.imp (EvP.tuple (EvP.cons (EvP.var rfl) (EvP.cons (get m (inn (List.mem_filter.mp hm).1) G5 _ hd5) EvP.nil)) (by show 2 ≤ 1000; decide)) fun v H h => tup_is (xs := [.str m, .int (amt kvs m)]) h
    · obtain ⟨m, hm, rfl⟩ := List.mem_map.mp hy
      exact stays_tupV _
  intro v6 H6 e6 ⟨r, rows, ev, hr6, hrows⟩
  subst ev
  rw [List.filter_eq_self.mpr (fun _ _ => rfl), ← told_rows] at hrows
  have f8 := e6 _ _ f7
  have rx : r ≠ x := ne_of hr6 f8 (fun z => nomatch z)
  refine ⟨x, C, dx, _, rfl, f8, S.cl, S.nR, by show 3 < 1000; decide, ?_⟩
  have un : ∀ {b o o'}, H6 b = some o → b ≠ x → upd H6 x o' b = some o := fun h ne => by
    rw [upd_ne ne]
    exact h
  refine q _ (fun b o h ne => un (e6 _ _ (k5 _ _ (e5 _ _ (k4 _ _ (k3 _ _ (e123 _ _ h) ne) ne)) ne)) ne) ⟨dx, n, g, r, rows, ?_, ?_, un (e6 _ _ hg5) gx, un hr6 rx, ?_, newg⟩
  · rw [upd_same, told_sum kvs am0] <;> rfl
  · rw [told_names]
    exact un (e6 _ _ hn5) nx
  · exact rows_stay f8 (fun ys z => nomatch z) hrows
end
end Fk

set_option Elab.async false
set_option linter.all false
set_option maxRecDepth 100000
set_option maxHeartbeats 1000000
/-! sorted(xs, key=f), f giving texts: over the heap alone, then as a rule of the hand layer with f = str. -/
namespace KyS
open PySem PySem.W PySem.Calls PyProof.Rows
/-- h' has all of h's objects but the one at a -/
def But (a : Addr) (h h' : Heap) : Prop := ∀ b o, b ≠ a → h.get? b = some o → h'.get? b = some o
theorem But.kept {a : Addr} {h h' h2 : Heap} (k : But a h h') (g : ∀ b o, h'.get? b = some o → h2.get? b = some o) : But a h h2 := fun b o n e => g _ _ (k b o n e)
def Strs (vs : List Value) (ks : List Str) : Prop := EachIs (fun v k => ∃ t, v = Value.str k t) vs ks
theorem Strs.reads {h : Heap} : ∀ {vs : List Value} {ks : List Str}, Strs vs ks → EachIs (fun v d => ∃ as, Reads h v d as) vs (ks.map PyData.str)
  | _, _, .nil => .nil
  | _, _, .cons ⟨t, e⟩ r => .cons ⟨[], by rw [e]; exact .str _ _⟩ (Strs.reads r)
theorem alikeT (ks : List Str) : AllAlike (ks.map PyData.str) := AllAlike.of fun b b' => by simp [alike]
theorem sortableT (ks : List Str) : Sortable (ks.map PyData.str) := Sortable.others fun b => ⟨nofun, fun xs => nofun⟩
/-- what is left: the values that stand for bs, by their keys -/
def Out (kz : List Str) (vs out : List Value) : Prop := ∃ (h : Heap) (ks : List Value), Strs ks kz ∧ out = sortVals (dataKind h (kz.map PyData.str)) false ks vs
theorem Out.each {β : Type} {R : Value → β → Prop} {bs : List β} {vs out : List Value} (k : β → Str) (h : Out (bs.map k) vs out) (hR : EachIs R vs bs) : EachIs R out (bs.mergeSort (dataLe false fun b => PyData.str (k b))) := by
  obtain ⟨hp, ks, hs, rfl⟩ := h
  have e1 : EachIs (fun v d => ∃ as, Reads hp v d as) ks ((bs.map k).map PyData.str) := hs.reads
  have e2 := each_keys (alikeT (bs.map k)) e1
  have e3 : (bs.map k).map PyData.str = bs.map fun b => PyData.str (k b) := by rw [List.map_map]; rfl
  have e4 : ∀ l, l = (bs.map k).map PyData.str → EachIs (fun v d => (dataKind hp ((bs.map k).map PyData.str)).keyOf v = some (keyToks d)) ks l := fun l q => q ▸ e2
  exact sortVals_each (κ := dataKind hp ((bs.map k).map PyData.str)) (fun b => keyToks (PyData.str (k b))) hR (each_of_map (fun b => PyData.str (k b)) (e4 _ e3.symm))
theorem Out.length {kz : List Str} {vs out : List Value} (h : Out kz vs out) (hl : kz.length = vs.length) : out.length = vs.length := by
  obtain ⟨hp, ks, hs, rfl⟩ := h
  exact sortVals_length false (hs.length.trans hl)
section
variable {prog : Program} {w : World} {A : Around} {E : Value → Shared → Prop} {s : Shared} {a kS : Addr} {vs : List Value} {keys : Array Value} {kz : List Str} {h0 : Heap} {e e1 : Nat} {P : PySem.Fin → Shared → Prop}
theorem tail_at {st : SortSt} {out : List Value} (kA : s.heap.get? a = some (seqObj "list" #[] e1)) (kK : s.heap.get? kS = some (seqObj "list" keys e)) (ne : kS ≠ a) (hz : keys.size ≤ sizeLine) (ho : out.length ≤ sizeLine) (hf : failedOf st = none)
    (eo : (arrOf st).map (·.2) = out.toArray) (h : ∀ h' c, (∀ b o, b ≠ a → b ≠ kS → s.heap.get? b = some o → h'.get? b = some o) → h'.get? a = some (seqObj "list" out.toArray c) → P (.done (.ret .none)) { s with heap := h' }) :
    wpAny (model prog w) A (ksk_tail a false e1 (.ref kS) st) P E s := by
  obtain ⟨c1, g1⟩ : ∃ c1, (s.heap.update kS (Obj.mapSeq fun _ => (#[] : Array Value))).get? kS = some (seqObj "list" #[] c1) := ⟨_, get?_update_seq kK fun _ => #[]⟩
  have g2 : (s.heap.update kS (Obj.mapSeq fun _ => (#[] : Array Value))).get? a = some (seqObj "list" #[] e1) := by rw [Heap.get?_update_ne _ _ _ _ (Ne.symm ne)]; exact kA
  obtain ⟨c2, g3⟩ : ∃ c2, ((s.heap.update kS (Obj.mapSeq fun _ => (#[] : Array Value))).update a (Obj.mapSeq fun _ => out.toArray)).get? a = some (seqObj "list" out.toArray c2) := ⟨_, get?_update_seq g2 fun _ => out.toArray⟩
  unfold ksk_tail
  dsimp only
  simp only [Bool.false_eq_true, if_false, eo]
  refine wpAny_bind (listUpdate_at kK rfl (wpAny_bind (wpAny_letGo (wpAny_bind (seqEpoch_at g2 rfl (wpAny_bind (listUpdate_at g2 rfl ?_ (Nat.zero_le _) (by rw [List.size_toArray]; omega))))))) hz (Nat.zero_le _))
  rw [hf]
  simp only [bne_self_eq_false, Bool.false_eq_true, if_false]
  exact wpAny_pure (h _ c2 (fun b o n1 n2 q => by rw [Heap.get?_update_ne _ _ _ _ n1, Heap.get?_update_ne _ _ _ _ n2]; exact q) g3)
theorem end_at (kA : s.heap.get? a = some (seqObj "list" #[] e1)) (kK : s.heap.get? kS = some (seqObj "list" keys e)) (ne : kS ≠ a) (hk : Strs keys.toList kz) (hl : kz.length = vs.length) (hz : vs.length ≤ sizeLine) (hu : A.units + 2 < cLine)
    (h : ∀ h' c out, (∀ b o, b ≠ a → b ≠ kS → s.heap.get? b = some o → h'.get? b = some o) → h'.get? a = some (seqObj "list" (List.toArray out) c) → Out kz vs out → P (.done (.ret .none)) { s with heap := h' }) :
    wpAny (model prog w) A (ksk_end a false vs.toArray e1 (.ref kS) keys) P E s := by
  have kl : keys.toList.length = vs.length := hk.length.trans hl
  have ks' : keys.size = vs.length := by rw [← Array.length_toList]; exact kl
  have S : SortsAt prog w A s (dataKind s.heap (kz.map PyData.str)) keys.toList := SortsAt.data hk.reads (alikeT kz) (sortableT kz) fun d hd => by
    obtain ⟨k, _, rfl⟩ := List.mem_map.mp hd
    show A.units + 0 < cLine
    omega
  obtain ⟨kd, L1, L2⟩ := S.kind
  have KO : PyProof.Rows.KeysOf (dataKind s.heap (kz.map PyData.str)) (keys.zip vs.toArray) := keysOf_zip S.keys
  have O : Out kz vs (sortVals (dataKind s.heap (kz.map PyData.str)) false keys.toList vs) := ⟨s.heap, keys.toList, hk, rfl⟩
  have fin : ∀ st : SortSt, (arrOf st).Perm (keys.zip vs.toArray) → SortedToK (dataKind s.heap (kz.map PyData.str)) (arrOf st) (keys.zip vs.toArray).size → Stable (dataKind s.heap (kz.map PyData.str)) (arrOf st) (keys.zip vs.toArray) → failedOf st = none →
      wpAny (model prog w) A (ksk_tail a false e1 (.ref kS) st) P E s := fun st p1 p2 p3 p4 => by
    have z := sort_out (rev := false) (keys := keys) (items := vs.toArray) (xs := arrOf st) KO p1 p2 p3
    have z2 : (arrOf st).map (·.2) = (sortVals (dataKind s.heap (kz.map PyData.str)) false keys.toList vs).toArray := by
      have y := congrArg List.toArray z
      rw [Array.toArray_toList] at y
      exact y
    exact tail_at kA kK ne (by omega) (by rw [O.length hl]; exact hz) p4 z2 fun h' c q1 q2 => h h' c _ q1 q2 O
  have zs : (keys.zip vs.toArray).size = vs.length := by rw [Array.size_zip, ks', List.size_toArray, Nat.min_self]
  unfold ksk_end
  dsimp only
  simp only [Bool.false_eq_true, if_false]
  by_cases c : vs.toArray.size < 2
  · rw [if_pos c, if_pos c]
    refine wpAny_bind (wpAny_pure ?_)
    rw [StateT.run_pure]
    refine wpAny_bind (wpAny_pure ?_)
    refine fin (SortSt.mk' general' (keys.zip vs.toArray) #[] 7 none) (Array.Perm.refl _) (fun i j i1 i2 => ?_) (Stable.refl _) rfl
    rw [List.size_toArray] at c
    rw [zs] at i2
    have : i = j := by omega
    subst this
    exact KeyOrd.kle_refl _
  · rw [if_neg c, if_neg c]
    rw [List.size_toArray] at c
    have L3 : ∀ {Q : SortKind → Shared → Prop}, Q kd s → wpAny (model prog w) A (keyKind' keys) Q E s := fun {Q} q => by
      have z := L2 (by omega) E (Q := Q) q
      rw [Array.toArray_toList] at z
      exact z
    refine wpAny_bind (L3 ?_)
    refine wpAny_bind (wpAny_mono (H.wpS_sortRunsSt (st := SortSt.mk' kd (keys.zip vs.toArray) #[] 7 none) (Q := fun _ st => failedOf st = none ∧ (arrOf st).Perm (keys.zip vs.toArray) ∧ SortedToK (dataKind s.heap (kz.map PyData.str)) (arrOf st) (keys.zip vs.toArray).size ∧ Stable (dataKind s.heap (kz.map PyData.str)) (arrOf st) (keys.zip vs.toArray))
      L1 KO ⟨Array.Perm.refl _, rfl, rfl⟩ rfl (Stable.refl _) (by omega) fun st p1 p2 p3 p4 => ⟨p2, p1, p3, p4⟩) ?_ fun _ _ z => z)
    rintro ⟨⟨⟩, st⟩ s' ⟨rfl, p1, p2, p3, p4⟩
    exact fin st p2 p3 p4 p1
end
end KyS

set_option Elab.async false
set_option linter.all false
set_option maxRecDepth 100000
set_option maxHeartbeats 1000000
namespace KyS
open PySem PySem.W PySem.Calls PyProof.Rows
theorem Strs.snoc {k : Str} {t : Tok} : ∀ {vs : List Value} {ks : List Str}, Strs vs ks → Strs (vs ++ [.str k t]) (ks ++ [k])
  | _, _, .nil => .cons ⟨t, rfl⟩ .nil
  | _, _, .cons h r => .cons h (Strs.snoc r)
/-- what f gives of an item -/
def Turns (prog : Program) (w : World) (A : Around) (s : Shared) (a : Addr) (f : Value) (vs : List Value) (kz : List Str) : Prop :=
  ∀ (i : Nat) (v : Value) (k : Str), vs[i]? = some v → kz[i]? = some k → ∀ (h : Heap) (tk : Nat), But a s.heap h →
    wpAny (model prog w) A (call f [v]) (fun r s2 => ∃ t h' tk', r = .str k t ∧ s2 = { s with heap := h', toks := tk' } ∧ ∀ b o, h.get? b = some o → h'.get? b = some o) (fun _ _ => False) { s with heap := h, toks := tk }
section
variable {prog : Program} {w : World} {A : Around} {E : Value → Shared → Prop} {s s0 : Shared} {a kS : Addr} {vs : List Value} {kz : List Str} {e1 : Nat} {f : Value} {P : PySem.Fin → Shared → Prop}
theorem rest_at (K : ∀ b o, b ≠ a → s0.heap.get? b = some o → b ≠ kS ∧ s.heap.get? b = some o) (es : s = { s0 with heap := s.heap, toks := s.toks }) (kA : s.heap.get? a = some (seqObj "list" #[] e1)) (kK : s.heap.get? kS = some (seqObj "list" #[] 0)) (ne : kS ≠ a) (hl : kz.length = vs.length) (hz : vs.length ≤ sizeLine) (hu : A.units + 2 < cLine) (T : Turns prog w A s0 a f vs kz)
    (h : ∀ h' tk c out, But a s0.heap h' → h'.get? a = some (seqObj "list" (List.toArray out) c) → Out kz vs out → P (.done (.ret .none)) { s0 with heap := h', toks := tk }) :
    wpAny (model prog w) A (ksk_rest a f false vs.toArray e1 (.ref kS)) P E s := by
  rw [es]
  unfold ksk_rest
  refine wpAny_bind (wpAny_rule ?_)
  first
    | rw [List.forIn_toArray]
    | (rw [← Array.forIn_toList]; simp only [List.toList_toArray])
  refine wpAny_bind (ksk_fold (fun i s' => ∃ h' tk kA' e', s' = { s0 with heap := h', toks := tk } ∧ But a s0.heap h' ∧ (∀ b o, b ≠ a → s0.heap.get? b = some o → b ≠ kS) ∧ h'.get? a = some (seqObj "list" #[] e1) ∧ h'.get? kS = some (seqObj "list" kA' e') ∧ Strs kA'.toList (kz.take i)) vs 0 _
    ⟨s.heap, s.toks, #[], 0, rfl, fun b o n q => (K b o n q).2, fun b o n q => (K b o n q).1, kA, kK, by rw [List.take_zero]; exact .nil⟩ ?step ?done)
  case step =>
    rintro j x s' hx ⟨h', tk, kA', e', rfl, k1, k2, k3, k4, k5⟩
    rw [Nat.zero_add] at k5 ⊢
    have hj : j < vs.length := (List.getElem?_eq_some_iff.mp hx).1
    obtain ⟨k, hk⟩ : ∃ k, kz[j]? = some k := ⟨_, List.getElem?_eq_getElem (by omega)⟩
    have z : kA'.size ≤ vs.length := by
      have y := k5.length
      rw [Array.length_toList, List.length_take] at y
      omega
    refine wpAny_bind (wpAny_attempt (wpAny_mono (T j x k hx hk h' tk k1) (fun v s2 hv => ?_) fun _ _ y => y.elim))
    obtain ⟨t, g, tk2, rfl, rfl, kg⟩ := hv
    dsimp only
    have gK := kg _ _ k4
    obtain ⟨c2, gk2⟩ : ∃ c2, (g.update kS (Obj.mapSeq (·.push (.str k t)))).get? kS = some (seqObj "list" (kA'.push (.str k t)) c2) := ⟨_, get?_update_seq gK (·.push (.str k t))⟩
    refine wpAny_bind (listUpdate_at gK rfl (wpAny_pure ⟨rfl, _, _, kA'.push (.str k t), c2, rfl, fun b o n q => ?_, k2, ?_, gk2, ?_⟩) (Nat.le_trans z hz) (by rw [Array.size_push]; omega))
    · rw [Heap.get?_update_ne _ _ _ _ (k2 b o n q)]
      exact kg _ _ (k1 b o n q)
    · rw [Heap.get?_update_ne _ _ _ _ (Ne.symm ne)]
      exact kg _ _ k3
    · have e3 : kz.take (j + 1) = kz.take j ++ [k] := by rw [List.take_add_one, hk]; rfl
      rw [e3, Array.toList_push]
      exact k5.snoc
  case done =>
    rintro s' ⟨h', tk, kA', e', rfl, k1, k2, k3, k4, k5⟩
    rw [Nat.zero_add, ← hl, List.take_length] at k5
    refine wpAny_bind (listItems_at k4 rfl ?_)
    exact end_at (s := { s0 with heap := h', toks := tk }) k3 k4 ne k5 hl hz hu fun h2 c out q1 q2 q3 => h h2 tk c out (fun b o n q => q1 b o n (k2 b o n q) (k1 b o n q)) q2 q3
theorem tree_at {n : Nat} (ho : s.heap.get? a = some (seqObj "list" vs.toArray n)) (hl : kz.length = vs.length) (hz : vs.length ≤ sizeLine) (hu : A.units + 2 < cLine) (T : Turns prog w A s a f vs kz)
    (h : ∀ h' tk c out, But a s.heap h' → h'.get? a = some (seqObj "list" (List.toArray out) c) → Out kz vs out → P (.done (.ret .none)) { s with heap := h', toks := tk }) :
    wpAny (model prog w) A (ksk_tree a f false) P E s := by
  obtain ⟨e1, g1⟩ : ∃ e1, (s.heap.update a (Obj.mapSeq fun _ => (#[] : Array Value))).get? a = some (seqObj "list" #[] e1) := ⟨_, get?_update_seq ho fun _ => #[]⟩
  have sz : ((s.heap.update a (Obj.mapSeq fun _ => (#[] : Array Value))).push (seqObj "tuple" vs.toArray 0)).objs.size = s.heap.objs.size + 1 := by rw [size_push', Heap.size_update]
  have la := Heap.lt_size ho
  unfold ksk_tree
  refine wpAny_bind (listItems_at ho rfl (wpAny_bind (listUpdate_at ho rfl (wpAny_bind (seqEpoch_at g1 rfl (wpAny_bind (wpAny_newTuple (wpAny_bind (wpAny_newList (wpAny_holding ?_) (Nat.zero_le _))) (by show vs.length ≤ _; exact hz))))) (by rw [List.size_toArray]; exact hz) (Nat.zero_le _))))
  refine rest_at (s0 := s) (s := { s with heap := ((s.heap.update a (Obj.mapSeq fun _ => (#[] : Array Value))).push (seqObj "tuple" vs.toArray 0)).push (seqObj "list" #[] 0) }) (fun b o n q => ⟨?_, ?_⟩) rfl (Heap.get?_push_of_some _ (Heap.get?_push_of_some _ g1)) (Heap.get?_push_size _ rfl) ?_ hl hz hu T h
  · rw [sz]
    exact Nat.ne_of_lt (Nat.lt_succ_of_lt (Heap.lt_size q))
  · refine Heap.get?_push_of_some _ (Heap.get?_push_of_some _ ?_)
    rw [Heap.get?_update_ne _ _ _ _ n]
    exact q
  · rw [sz]
    exact Nat.ne_of_gt (Nat.lt_succ_of_lt la)
/-- sorted(xs, key=f) -/
theorem sorted_at {l : Addr} {Q : Value → Shared → Prop} (hL : s.heap.IsList l vs.toArray) (hl : kz.length = vs.length) (hz : vs.length ≤ sizeLine) (hu : A.units + 8 < cLine)
    (ht : ∀ x, Builtin.«list.sort» ⟨[.ref x], [(Str.ofString "key", f)]⟩ = ksk_tree x f false)
    (T : ∀ (h : Heap) (D : Addr), (∀ b o, s.heap.get? b = some o → b ≠ D ∧ h.get? b = some o) → Turns prog w A.in1.in1 { s with heap := h } D f vs kz)
    (h : ∀ h' tk c out, (∀ b o, s.heap.get? b = some o → h'.get? b = some o) → s.heap.objs.size ≤ s.heap.objs.size + 1 → h'.get? (s.heap.objs.size + 1) = some (seqObj "list" (List.toArray out) c) → Out kz vs out → Q (.ref (s.heap.objs.size + 1)) { s with heap := h', toks := tk }) :
    wpAny (model prog w) A (call (.builtin "sorted") [.ref l] [(Str.ofString "key", f)]) Q E s := by
  refine sorted_of_sort hL hz (ksk_s1 _ _) (fun x => ksk_l1 _ _) fun E' => ?_
  rw [ht]
  have nn : ∀ b o, s.heap.get? b = some o → b ≠ s.heap.objs.size + 1 := fun b o q => Nat.ne_of_lt (Nat.lt_succ_of_lt (Heap.lt_size q))
  exact tree_at (s := { s with heap := copyHeap s.heap vs }) (copyHeap_at s.heap vs) hl hz (by show A.units + 1 + 1 + 2 < cLine; omega) (T _ _ fun b o q => ⟨nn b o q, copyHeap_old q⟩)
    fun h' tk c out k1 k2 k3 => ⟨rfl, h h' tk c out (fun b o q => k1 b o (nn b o q) (copyHeap_old q)) (Nat.le_succ _) k2 k3⟩
end
end KyS

set_option Elab.async false
set_option linter.all false
set_option maxRecDepth 100000
set_option maxHeartbeats 1000000
namespace KyS
open PySem PySem.Spec PyProof.Rows L2
/-- str(x) is k -/
inductive KeyV (H : Hp) : V → Str → Prop
  | str (x : Str) : KeyV H (.str x) x
  | tup {a : Addr} {xs : List V} {ds : List PyData} : H a = some (.tup xs) → DqAll a H xs ds → (PyData.tuple ds).showable = true → (PyData.tuple ds).depth ≤ 60 → (PyData.tuple ds).shown.length ≤ 100000 → KeyV H (.ref a) (PyData.tuple ds).shown
/-- xs, sorted by their texts -/
def byKey (key : V → Str) (xs : List V) : List V := xs.mergeSort (PySem.W.dataLe false fun x => PyData.str (key x))
def rSortK (K : PySem.W.Frag) : List V → List V → Hp → VK → Prop := fun vs zs H Q => ∃ (a : Addr) (xs : List V) (key : V → Str), vs = [.ref a] ∧ zs = [.ty "str"] ∧ SqL K H a xs ∧ (∀ x ∈ xs, KeyV H x (key x)) ∧ ∀ p, H p = none → Q (.ref p) (upd H p (.lst (byKey key xs)))
section
variable {X : Cx}
theorem each_of_vals : ∀ {xs : List V} {us : List Value}, Vals xs us → PySem.W.EachIs (fun u x => RelV x u) us xs
  | _, _, .nil => .nil
  | _, _, .cons h t => .cons h (each_of_vals t)
theorem vals_of_each : ∀ {xs : List V} {us : List Value}, PySem.W.EachIs (fun u x => RelV x u) us xs → Vals xs us
  | _, _, .nil => .nil
  | _, _, .cons h t => .cons h (vals_of_each t)
theorem each_get {α β : Type} {R : α → β → Prop} : ∀ {as : List α} {bs : List β}, PySem.W.EachIs R as bs → ∀ {i : Nat} {a : α} {b : β}, as[i]? = some a → bs[i]? = some b → R a b
  | _, _, .nil, i, a, b, h, _ => by simp at h
  | _, _, .cons r t, 0, a, b, h, k => by
    cases h
    cases k
    exact r
  | _, _, .cons r t, i + 1, a, b, h, k => each_get t (by simpa using h) (by simpa using k)
theorem cr_sortedStr (hg : X.A.guards = some []) (hu : X.A.units + 80 < cLine) : CallRK X (.builtin "sorted") [Str.ofString "key"] (rSortK X.K) := by
  intro pins s σ H vs zs us ws Q I r rz h
  obtain ⟨a, xs, key, rfl, rfl, hs, hk, q⟩ := h
  obtain rfl := Vals.ref1 r
  obtain ⟨w1, rfl, e1⟩ := vals1 rz
  obtain rfl : w1 = Value.type "str" := e1
  obtain ⟨its, rv, hl, hz⟩ := I.list hs
  have ev := each_of_vals rv
  refine sorted_at (vs := its) (kz := xs.map key) hl.isList (by rw [List.length_map]; exact rv.length) (by rw [← rv.length]; exact hz) (by omega) (fun _ => rfl) (fun h D k i v k0 hv hk0 h1 tk hb => ?_) fun h' tk c out k1 _ k2 k3 => ?_
  · rw [List.getElem?_map] at hk0
    obtain ⟨x, hx, rfl⟩ := Option.map_eq_some_iff.mp hk0
    have rx : RelV x v := each_get ev hv hx
    have kp : ∀ b o, s.heap.get? b = some o → h1.get? b = some o := fun b o z => hb b o (k b o z).1 (k b o z).2
    have kx := hk x (List.mem_of_getElem? hx)
    generalize key x = y at kx
    cases kx with
    | str x =>
      obtain ⟨t, rfl⟩ := rx
      exact PySem.P.str_of_str ⟨t, h1, tk, rfl, rfl, fun _ _ z => z⟩
    | @tup b ys ds h2 h3 h4 h5 h6 =>
      cases rx
      obtain ⟨_, us, rus, o, g, cl, n, dt⟩ := (show ObjOk X.prog X.w H s.heap _ (.tup _) from I.hok _ _ h2)
      obtain ⟨as, rd, nm⟩ := DqAll.reads I ds _ us h3 rus
      have R : Reads s.heap (.ref b) (.tuple ds) as := Reads.tuple g cl dt (by simpa using rd)
      exact str_of_reads R h4 (fun _ => nm) hg (by show X.A.units + 1 + 1 + _ < cLine; omega) kp (fun h2 u tk2 k5 => ⟨u, h2, tk2, rfl, rfl, k5⟩) (by rw [sizeLine_eq]; omega)
  · have ee := k3.each key ev
    have vv : Vals (byKey key xs) out := vals_of_each ee
    have lz : (byKey key xs).length ≤ sizeLine := by
      unfold byKey
      rw [(List.mergeSort_perm _ _).length_eq]
      exact hz
    exact ⟨.ref _, upd H (s.heap.objs.size + 1) (.lst (byKey key xs)), I.laid (t' := tk) k1 (Nat.le_succ _) ⟨lz, out, c, vv, k2⟩, rfl, q _ (I.hok.fresh (Nat.le_succ _))⟩
end
end KyS

set_option Elab.async false
set_option linter.all false
set_option maxRecDepth 100000
set_option maxHeartbeats 1000000
/-! d == e, dicts whose keys are tuples. -/
namespace DtE
open PySem PySem.Calls PyProof.Rows PyProof.V
section
variable {prog : Program} {w : World} {K : Type} [DecidableEq K] {knd : HeapKind prog w K} {A : Around} {E : Value → Shared → Prop} {s : Shared}
abbrev Ent (K : Type) := List (K × Addr × Value)
inductive Hits (A : Around) (s : Shared) (B : Ent K) : Ent K → Bool → Prop
  | nil : Hits A s B [] true
  | miss {x : K × Addr × Value} {r : Ent K} : atKey B x.1 = none → Hits A s B (x :: r) false
  | hit {x : K × Addr × Value} {p : Addr × Value} {r : Ent K} {e b : Bool} : atKey B x.1 = some p → SeqAt.EqAt A s x.2.2 p.2 e → Hits A s B r b → Hits A s B (x :: r) (e && b)
theorem same {nm : String} {a b : Addr} {xa xb : Ent K} {r : Bool} {Q : Bool → Shared → Prop} (hu : knd.room A) (na : (a == sysModules) = false) (nb : (b == sysModules) = false) (da : s.heap.DictOfH knd a xa) (db : s.heap.DictOfH knd b xb)
    (hits : xa.length = xb.length → Hits A s xb xa r) (h : Q (xa.length == xb.length && r) s) : wpAny (model prog w) A (Builtin.Dict.samePairs nm a b) Q E s := by
  obtain ⟨oa, ea, pa, ga, _, ta, la, ia, _⟩ := da
  obtain ⟨ob, eb, pb, gb, _, tb, lb, ib, ub⟩ := db
  have za := size_of_entries la
  have zb := size_of_entries lb
  rw [← za, ← zb] at h
  unfold Builtin.Dict.samePairs Builtin.Dict.showsAll
  rw [if_neg (show ¬ (a == sysModules) = true by rw [na]; decide), if_neg (show ¬ (b == sysModules) = true by rw [nb]; decide)]
  refine wpAny_bind (wpAny_pure (wpAny_bind (wpAny_pure (wpAny_bind (wpAny_dictEntries ga ta ?_)))))
  refine wpAny_bind (wpAny_dictEntries gb tb ?_)
  by_cases hz : ea.size = eb.size
  case neg =>
    rw [if_pos (by simpa using hz)]
    rw [show (ea.size == eb.size) = false by simpa using hz, Bool.false_and] at h
    exact wpAny_bind (wpAny_rule (wpAny_pure h))
  case pos =>
    have q : Q r s := by simpa [hz] using h
    have g := hits (by rw [← za, ← zb]; exact hz)
    rw [if_neg (by rw [hz]; simp)]
    refine wpAny_bind (wpAny_dictEpoch ga ta (wpAny_bind ?_))
    rw [Std.Legacy.Range.forIn_eq_forIn_range']
    simp only [Std.Legacy.Range.size, Nat.sub_zero, Nat.add_sub_cancel, Nat.div_one]
    refine wpAny_forIn_list _ (fun rest p s' => s' = s ∧ p = (none, ()) ∧ ∃ i, rest = List.range' i (ea.size - i) ∧ i ≤ ea.size ∧ Hits A s xb (xa.drop i) r) _ ?_ ?_ _ _ ⟨rfl, rfl, 0, by simp, Nat.zero_le _, g⟩
    · rintro x rest p s' ⟨rfl, rfl, i, hr, hi, hp⟩
      have lt : i < ea.size := by
        rcases Nat.lt_or_ge i ea.size with z | z
        · exact z
        · rw [Nat.sub_eq_zero_of_le z] at hr
          simp at hr
      have e1 : ea.size - i = (ea.size - (i + 1)) + 1 := by omega
      rw [e1, List.range'_succ] at hr
      obtain ⟨rfl, hr2⟩ := List.cons.inj hr
      have lt' : x < xa.length := by rw [← za]; exact lt
      obtain ⟨y, hy⟩ : ∃ y, xa[x] = y := ⟨_, rfl⟩
      have hd : xa.drop x = y :: xa.drop (x + 1) := by rw [← hy]; exact List.drop_eq_getElem_cons lt'
      have ex : ea[x]? = some (entryOfKey knd y) := by rw [entry_at la x, List.getElem?_eq_getElem lt', hy]; rfl
      have iy : knd.is s'.heap y.1 y.2.1 := ia y (by rw [← hy]; exact List.getElem_mem lt')
      rw [hd] at hp
      refine wpAny_bind (wpAny_dictEntries ga ta ?_)
      rw [ex]
      show wpAny _ _ (holding [(entryOfKey knd y).key, (entryOfKey knd y).val] _ >>= _) _ _ _
      refine wpAny_bind (wpAny_holding (wpAny_bind ?_))
      refine wpAny_dictFind_heap hu iy gb tb lb ib ub (fun hno => ?_) fun j p hj => ?_
      · have hn := atKey_none_of_get hno
        cases hp with
        | miss _ =>
          refine wpAny_pure ?_
          show wpAny _ _ (if (!false) = true then _ else _) _ _ _
          rw [if_pos (by decide)]
          exact wpAny_pure (wpAny_pure q)
        | hit h1 _ _ =>
          rw [hn] at h1
          cases h1
      · have hn := atKey_of_get ub hj
        refine wpAny_bind (wpAny_dictEntries gb tb ?_)
        rw [entry_at lb j, hj]
        cases hp with
        | miss h1 =>
          rw [hn] at h1
          cases h1
        | @hit _ p' _ e b' h1 h2 h3 =>
          rw [hn] at h1
          obtain rfl := Option.some.inj h1
          refine wpAny_holding (h2 prog w _ _ ?_)
          cases e with
          | false =>
            show wpAny _ _ (if (!false) = true then _ else _) _ _ _
            rw [if_pos (by decide)]
            exact wpAny_pure (wpAny_pure (by simpa using q))
          | true =>
            show wpAny _ _ (if (!true) = true then _ else _) _ _ _
            rw [if_neg (by decide)]
            refine wpAny_bind (wpAny_dictEpoch ga ta ?_)
            rw [if_neg (by simp)]
            exact wpAny_pure ⟨rfl, rfl, x + 1, hr2, lt, by simpa using h3⟩
    · rintro p s' ⟨rfl, rfl, i, hr, hi, hp⟩
      have e1 : i = ea.size := by
        rcases Nat.lt_or_ge i ea.size with z | z
        · have e2 : ea.size - i = (ea.size - (i + 1)) + 1 := by omega
          rw [e2, List.range'_succ] at hr
          cases hr
        · exact Nat.le_antisymm hi z
      rw [e1, za, List.drop_length] at hp
      cases hp
      exact wpAny_pure q
theorem eq_at {a b : Addr} {xa xb : Ent K} {r : Bool} {Q : Value → Shared → Prop} (hr : knd.room A.in1) (na : (a == sysModules) = false) (nb : (b == sysModules) = false) (da : s.heap.DictOfH knd a xa) (db : s.heap.DictOfH knd b xb) (hu : A.units < cLine)
    (hits : xa.length = xb.length → Hits A.in1 s xb xa r) (h : Q (.bool (xa.length == xb.length && r)) s) : wpAny (model prog w) A (compareOp .Eq (.ref a) (.ref b)) Q E s := by
  refine wpAny_richCompare_same_room (op := .Eq) da.typeIs db.typeIs PySem.F.slot_dict_eq (wpAny_call_entry PySem.F.slot_dict_eq da.typeIs PySem.F.entry_dict_eq ?_ (PySem.F.args_dict_eq_2 _ _)) hu
  show wpAny _ _ (Builtin.Dict.dictSlotArgs "__eq__" ⟨[.ref a, .ref b], []⟩ >>= _) _ _ s
  unfold Builtin.Dict.dictSlotArgs
  refine wpAny_bind (wpAny_bind (wpAny_notOrdered_dict da.typeIs (by
    show wpAny _ _ (pure (Value.ref a, Value.ref b)) _ _ s
    refine wpAny_pure (wpAny_bind (wpAny_isInstance (T := "dict") db.typeIs PySem.F.sub_dict_dict ?_))
    simp only [Bool.not_true, Bool.false_eq_true, if_false]
    refine wpAny_bind (wpAny_pure (wpAny_bind (wpAny_pure (wpAny_bind (same hr na nb da db hits ?_)))))
    exact wpAny_pure ⟨_, rfl, (by intro x; cases x), by simpa using h⟩)))
end
end DtE
namespace DtE
open PySem PySem.Spec PyProof.Rows L2
/-- amounts by tuples -/
abbrev TRow := List (List Key × Int)
def tents (r : TRow) : List (List Key × V) := r.map fun t => (t.1, .int t.2)
def lookT (r : TRow) (k : List Key) : Option Int := (r.find? fun t => decide (t.1 = k)).map (·.2)
def sameT (a b : TRow) : Bool := a.length == b.length && a.all fun t => decide (lookT b t.1 = some t.2)
theorem valV_tents (k : List Key) : ∀ r : TRow, valV (tents r) k = (lookT r k).map V.int
  | [] => rfl
  | t :: r => by
    have ih := valV_tents k r
    unfold tents lookT at ih ⊢
    by_cases e : t.1 = k
    · rw [List.map_cons, valV_pos e, List.find?_cons, decide_eq_true e] <;> rfl
    · rw [List.map_cons, valV_neg e, ih, List.find?_cons, decide_eq_false e]
theorem hits_of {H : Hp} {A : Around} {s : Shared} {b : TRow} {xb : List (List Key × Addr × Value)} (rb : KT H (tents b) xb) : ∀ {a : TRow} {xa : List (List Key × Addr × Value)}, KT H (tents a) xa → Hits A s xb xa (a.all fun t => decide (lookT b t.1 = some t.2))
  | [], _, r => by
    cases r
    exact .nil
  | t :: a, _, r => by
    cases r with
    | @cons _ q _ _ h h2 =>
      obtain ⟨e1, _, ev⟩ := h
      have ih := hits_of (A := A) (s := s) rb h2
      have z := rb.val t.1
      rw [valV_tents] at z
      rw [List.all_cons]
      cases c : lookT b t.1 with
      | none =>
        rw [c] at z
        have z2 : atKey xb q.1 = none := by
          rw [← e1]
          cases y : atKey xb t.1 with
          | none => rfl
          | some p =>
            rw [y] at z
            exact z.elim
        exact .miss z2
      | some n =>
        rw [c] at z
        cases y : atKey xb t.1 with
        | none =>
          rw [y] at z
          exact z.elim
        | some p =>
          rw [y] at z
          obtain ⟨u, eu⟩ : ∃ u, p.2 = Value.int n u := z
          obtain ⟨u2, eu2⟩ : ∃ u, q.2.2 = Value.int t.2 u := ev
          have eq : SeqAt.EqAt A s q.2.2 p.2 (decide (t.2 = n)) := by
            have f := PySem.W.keq_flat (A := A) (s := s) (v := q.2.2) (y := p.2) (d := .int t.2) (e := .int n) (by rw [eu2]; exact PyProof.V.Flat.int _ _) (by rw [eu]; exact PyProof.V.Flat.int _ _)
            have e3 : PyData.eqv (.int t.2) (.int n) = decide (t.2 = n) := by
              by_cases w : t.2 = n
              · simp [PyData.eqv, w]
              · simp [PyData.eqv, w]
            rw [e3] at f
            exact f
          have e4 : decide (some n = some t.2) = decide (t.2 = n) := by
            by_cases w : t.2 = n
            · rw [w, decide_eq_true rfl, decide_eq_true rfl]
            · rw [decide_eq_false w, decide_eq_false fun h => w (Option.some.inj h).symm]
          rw [e4]
          exact .hit (p := p) (by rw [← e1]; exact y) eq ih
def rEqT : R2 := fun x y H Q => ∃ (a b : Addr) (r r' : TRow), x = .ref a ∧ y = .ref b ∧ H a = some (.dT (tents r)) ∧ H b = some (.dT (tents r')) ∧ Q (.bl (sameT r r')) H
theorem op_eqT {X : Cx} (hu : X.A.units + 1 < cLine) : OpR X (compareOp .Eq) rEqT := by
  intro pins s σ H x y v u Q I rx ry h
  obtain ⟨a, b, r, r', rfl, rfl, ha, hb, q⟩ := h
  cases rx
  cases ry
  obtain ⟨_, na, xa, ra, da⟩ := dt_of I.hok ha
  obtain ⟨_, nb, xb, rb, db⟩ := dt_of I.hok hb
  refine eq_at (knd := tupleKind (mixKind X.prog X.w)) (by show X.A.units + 1 < cLine; exact hu) na nb da db (by omega) (fun _ => hits_of rb ra) ?_
  have l1 : xa.length = r.length := by rw [← Paired.length ra]; exact List.length_map _
  have l2 : xb.length = r'.length := by rw [← Paired.length rb]; exact List.length_map _
  exact fin_bl I q (by rw [l1, l2]; rfl)
end DtE

set_option Elab.async false
set_option linter.all false
set_option maxRecDepth 100000
set_option maxHeartbeats 4000000
/-! is_pair, ascending, pairs in the order of their texts; defs that keep promises while nothing is being shown. -/
namespace Fk
open PySem PySem.Spec PyProof.Rows L2
abbrev sPair : Stmt := top 16
theorem scPair : FnScope ["value"] ["value"] (defScope sPair) := ⟨rfl, rfl, rfl, by decide +kernel, rfl, by decide +kernel, by decide +kernel⟩
/-- a list or a tuple -/
def SqA (K : PySem.W.Frag) (H : Hp) (a : Addr) (xs : List V) : Prop := SqL K H a xs ∨ SqT K H a xs
/-- more built-ins that are still themselves -/
structure BltR (mg : Str → Option Value) : Prop where
  list : mg "list" = none
  tuple : mg "tuple" = none
end Fk
namespace XG
open PySem PySem.Spec PyProof.Rows L2
section
variable {P : Program} {w : World} {K : PySem.W.Frag} {mg : Str → Option Value} {base : Heap} {x qual : Str} {f : Addr} {fd : FuncData} {N ps : List Str} {k : Nat} {sp : Sp}
theorem Fun.okGX {st : Stmt} (F : Fun K x qual st f fd) (S : FnScope N ps (defScope st)) (len : ∀ vs H Q E, sp vs H Q E → vs.length = ps.length)
    (walk : ∀ (cdv : Value) (A : Around) (outer : List Env) (s : Shared) (H : Hp) (vs : List V) (Q : VK) (E : XK), A.guards = some [] → Room k (A.deeper (envOfC qual (defScope st) s.heap.objs.size f cdv)) → sp vs H Q E →
      ∃ t, PSs (cxOf (L2.CX P w) P w K mg base N qual (defScope st) f cdv A outer s H E) (defBody st) t ∧ t { nx := fun _ H' => Q .non H', rt := Q } (start N vs) H) : FnG P w K mg base (L2.CX P w) (k + 1) f fd ps sp := by
  obtain ⟨oc, od, kV, doc, pm, an, cdv, ct, osl, rfl, lk, hcd⟩ := F.ex
  exact fnG_of lk hcd S len fun A outer s H vs Q E gd room h => walk cdv A outer s H vs Q E gd room h
theorem FunD.okGX {params : Arguments} {body : List Stmt} {scope : Scope} {dvs : List V} {kws : List (Str × V)} (F : FunD K x qual params body scope dvs kws f fd) (S : FnScope N ps scope) (len : ∀ vs H Q E, sp vs H Q E → vs.length = ps.length)
    (walk : ∀ (cdv : Value) (A : Around) (outer : List Env) (s : Shared) (H : Hp) (vs : List V) (Q : VK) (E : XK), A.guards = some [] → Room k (A.deeper (envOfC qual scope s.heap.objs.size f cdv)) → sp vs H Q E →
      ∃ t, PSs (cxOf (L2.CX P w) P w K mg base N qual scope f cdv A outer s H E) body t ∧ t { nx := fun _ H' => Q .non H', rt := Q } (start N vs) H) : FnG P w K mg base (L2.CX P w) (k + 1) f fd ps sp := by
  obtain ⟨oc, od, dV, kV, doc, pm, an, cdv, ct, osl, rfl, lk, hcd, _, _⟩ := F.ex
  exact fnG_of lk hcd S len fun A outer s H vs Q E gd room h => walk cdv A outer s H vs Q E gd room h
/-- what raises nothing where it is asked so -/
theorem FnG.calm {sp' : Sp} (F : FnG P w K mg base (L2.CX P w) k f fd ps sp) (h : ∀ vs H Q E, sp' vs H Q E → sp vs H Q E0) : FnG P w K mg base CX0 k f fd ps sp' := fun A outer s H args us vs Q E gd room e0 bd r q => by
  refine codeAny_mono (F A outer s H args us vs Q E0 gd room e0 bd r (h _ _ _ _ q)) fun r s' z => ?_
  cases r with
  | ok fl => cases fl <;> exact z
  | error e =>
    obtain ⟨_, _, _, _, _, _, _, _, _, _, _, _, z⟩ := z
    exact z.elim
end
section
variable {X : Cx} {x : Str} {f C : Addr} {fd : FuncData} {k : Nat} {ps : List Str} {sp : Sp} {e : Expr} {es : List Expr} {t : TA} {p pos : Pos} {E : XK}
/-- the call of a def that may raise: what it lets out is E's business -/
theorem pe_callGX (F : FnG X.prog X.w X.K X.mg X.base (L2.CX X.prog X.w) k f fd ps sp) (len : ∀ vs H Q E, sp vs H Q E → vs.length = ps.length) (gd : X.A.guards = some []) (hr : Room k X.A) (hg : Gl X x) (hm : X.mg x = some (.ref f)) (hk : PySem.W.keepIn X.K (.ref f) = true) (hb : Binds X.K fd ps [])
    (hx : ∀ σ, PassesAt (L2.CX X.prog X.w) X σ E) (ha : PA X (e :: es) t) (hdb : (x == ("__debug__" : Str)) = false := by decide) (he : starEach (e :: es) X.env = (false, eval e X.env) :: starEach es X.env := by rfl) (hpl : (backTo pos (starEach es X.env)).any (·.1) = false := by rfl) :
    PE X (.Call (.Name x p) (e :: es) [] pos) (tCall sp [] E t) := by
  refine ⟨fun pins s σ H Q I h => wpAny_Call_Name_kw (ld_glob I hg hm (PySem.W.callWith_K (h₀ := X.base) I.ok.mod.kin hk (thn (ha.run pos pins s σ H _ I h) fun us s1 ⟨vs, H1, I1, r, q⟩ => ⟨I1.kIn, ?_⟩) he hpl) hdb)⟩
  replace q : sp vs H1 Q E := by
    have z : sp (vs ++ []) H1 Q E := q
    rw [List.append_nil] at z
    exact z
  have n : (us ++ []).length = ps.length := by rw [List.append_nil, ← r.length]; exact len _ _ _ _ q
  refine wpAny_call (codeAny_mono (F X.A X.stack s1 H1 ⟨us, []⟩ (us ++ []) vs Q E gd hr I1.env0 (hb s1 us I1.kIn n) (by rw [List.append_nil]; exact r) q) fun r' s' z => ?_)
  cases r' with
  | error e => exact hx σ pins H1 s1 e s' I1 z
  | ok fl => cases fl with
    | ret u => exact I1.after z
    | _ => exact (show False from z).elim
theorem run_makeGX {pins : List (Addr × Obj)} {σ : L2.St} {H : Hp} {s : Shared} {Q : VK} {us : List Value} {vs : List V} (M : Mk X.K C f) (F : FnG X.prog X.w X.K X.mg X.base (L2.CX X.prog X.w) k f fd ps sp) (len : ∀ vs H Q E, sp vs H Q E → vs.length = ps.length) (gd : X.A.guards = some []) (hr : Room (k + 1) X.A) (hb : Binds X.K fd ps [])
    (hx : ∀ σ, PassesAt (L2.CX X.prog X.w) X σ E) (I : Inv X pins σ H s) (r : Vals vs us) (h : ∀ x dx, H x = none → H dx = none → dx ≠ x → sp (.ref x :: vs) (upd (upd H dx (.own x)) x (.ins C dx [])) (fun v H2 => v = .non ∧ Q (.ref x) H2) E) : wpAny (model X.prog X.w) X.A (call (.ref C) us) (EP X pins σ Q) X.xe s := by
  have q := h (s.heap.objs.size + 1) s.heap.objs.size (I.hok.fresh (Nat.le_succ _)) (I.hok.fresh (Nat.le_refl _)) (Nat.ne_of_lt (Nat.lt_succ_self _))
  have J := Inv.made (C := C) I
  have rr : Vals (V.ref (s.heap.objs.size + 1) :: vs) (Value.ref (s.heap.objs.size + 1) :: us) := .cons rfl r
  have n : (Value.ref (s.heap.objs.size + 1) :: us ++ []).length = ps.length := by rw [List.append_nil, ← rr.length]; exact len _ _ _ _ q
  refine wpAny_call (make_map (f := f) I.kIn M.makes M.init (beq_iff_eq.mp M.fn) (codeAny_mono (F _ X.stack _ _ ⟨Value.ref (s.heap.objs.size + 1) :: us, []⟩ (Value.ref (s.heap.objs.size + 1) :: us ++ []) _ _ E gd (hr.make C us []) (J.env0.make C us []) (hb _ (Value.ref (s.heap.objs.size + 1) :: us) J.kIn n) (by rw [List.append_nil]; exact rr) q) fun r' s' z => ?_))
  cases r' with
  | error e => exact hx σ pins _ _ e s' J z
  | ok fl => cases fl with
    | ret u =>
      obtain ⟨v, H', I3, rv, ev, q3⟩ := J.after z
      subst ev
      exact ⟨rv, V.ref (s.heap.objs.size + 1), H', I3, rfl, q3⟩
    | _ => exact (show False from z).elim
def tMakeGX (C : Addr) (sp : Sp) (E : XK) (t : TA) : TE := fun σ H Q => t σ H fun vs H1 => ∀ x dx, H1 x = none → H1 dx = none → dx ≠ x → sp (.ref x :: vs) (upd (upd H1 dx (.own x)) x (.ins C dx [])) (fun v H2 => v = .non ∧ Q (.ref x) H2) E
theorem pe_makeGX (M : Mk X.K C f) (F : FnG X.prog X.w X.K X.mg X.base (L2.CX X.prog X.w) k f fd ps sp) (len : ∀ vs H Q E, sp vs H Q E → vs.length = ps.length) (gd : X.A.guards = some []) (hr : Room (k + 1) X.A) (hb : Binds X.K fd ps []) (hx : ∀ σ, PassesAt (L2.CX X.prog X.w) X σ E) (hg : Gl X x) (hm : X.mg x = some (.ref C))
    (ha : PA X (e :: es) t) (hdb : (x == ("__debug__" : Str)) = false := by decide) (he : starEach (e :: es) X.env = (false, eval e X.env) :: starEach es X.env := by rfl) (hpl : (backTo pos (starEach es X.env)).any (·.1) = false := by rfl) : PE X (.Call (.Name x p) (e :: es) [] pos) (tMakeGX C sp E t) := by
  refine ⟨fun pins s σ H Q I h => wpAny_Call_Name_kw (ld_glob I hg hm ?_ hdb)⟩
  exact PySem.W.callWith_K (h₀ := X.base) I.ok.mod.kin M.kp (thn (ha.run pos pins s σ H _ I h) fun us s1 ⟨vs, H1, I1, r, q⟩ => ⟨I1.kIn, run_makeGX M F len gd hr hb hx I1 r q⟩) he hpl
end
end XG
namespace Tb
open PySem PySem.Spec PyProof.Rows L2 EvP Cm Fk DtE KyS XG
def key2 (a x : Str) : List Key := [Sum.inr a, Sum.inr x]
theorem SqL.typ {K : PySem.W.Frag} {H : Hp} {a : Addr} {xs : List V} (h : SqL K H a xs) : TyX K H (.ref a) (.type "list") := by
  rcases h with (h | ⟨o, h⟩) | ⟨o, its, n, h, c, _⟩
  · exact .base (.lst h)
  · exact .base (.frz h)
  · exact .kList h c
theorem SqT.typ {K : PySem.W.Frag} {H : Hp} {a : Addr} {xs : List V} (h : SqT K H a xs) : TyX K H (.ref a) (.type "tuple") := by
  rcases h with (h | ⟨o, h⟩) | ⟨o, its, n, h, c, _⟩
  · exact .base (.tup h)
  · exact .fTuple h
  · exact .kTuple h c
theorem SqL.keep {K : PySem.W.Frag} {H H' : Hp} {a : Addr} {xs : List V} (e : Ex H H') (h : SqL K H a xs) : SqL K H' a xs := by
  rcases h with (h | ⟨o, h⟩) | h
  · exact .inl (.inl (e _ _ h))
  · exact .inl (.inr ⟨o, e _ _ h⟩)
  · exact .inr h
theorem SqT.keep {K : PySem.W.Frag} {H H' : Hp} {a : Addr} {xs : List V} (e : Ex H H') (h : SqT K H a xs) : SqT K H' a xs := by
  rcases h with (h | ⟨o, h⟩) | h
  · exact .inl (.inl (e _ _ h))
  · exact .inl (.inr ⟨o, e _ _ h⟩)
  · exact .inr h
theorem SqA.keep {K : PySem.W.Frag} {H H' : Hp} {a : Addr} {xs : List V} (e : Ex H H') (h : SqA K H a xs) : SqA K H' a xs := h.elim (fun h => .inl (SqL.keep e h)) fun h => .inr (SqT.keep e h)
section
variable {P : Program} {w : World} {K : PySem.W.Frag} {mg : Str → Option Value} {base : Heap} {f fN : Addr} {fd fdN : FuncData}
/-- is_pair of a pair of names -/
def spPair (K : PySem.W.Frag) : Sp := fun vs H Q _ => ∃ (p : Addr) (a x : Str), vs = [.ref p] ∧ H p = some (.tup [.str a, .str x]) ∧ NameV (.str a) ∧ NameV (.str x) ∧ Q (.bl true) H
theorem ok_pair (F : Fun K "is_pair" "is_pair" sPair f fd) (T : Blt mg) (R : BltR mg) (G : FnOk P w K mg base CX0 1 fN fdN ["value"] (spName K)) (b : Binds K fdN ["value"] []) (gN : mg "is_name" = some (.ref fN)) (kN : PySem.W.keepIn K (.ref fN) = true) :
    FnOk P w K mg base CX0 2 f fd ["value"] (spPair K) := by
  refine F.ok scPair (fun vs H Q E h => ?_) (fun cdv A outer s H vs Q E hr h => ?_)
  · obtain ⟨p, a, x, rfl, _⟩ := h
    rfl
  · obtain ⟨p, a, x, rfl, h, ⟨y, ey, na, na2⟩, ⟨z, ez, nx, nx2⟩, q⟩ := h
    cases ey
    cases ez
    refine ⟨_, pss_one (ps_ret (pe_and (pe_callB call_isi (by rfl) T.isi (by decide +kernel) (pa_cons (pv 0) (pa_cons (pe_bltn (v := .ty "tuple") (by rfl) R.tuple (by decide +kernel) rfl) pa_nil)))
      (pe_and (pe_cmpR op_eq (pe_callB call_len_seq (by rfl) T.len PySem.boot_len (pa_cons (pv 0) pa_nil)) pe_int (nomark _))
      (pe_and (pe_call G hr (by rfl) gN kN b .nil pass0 (pa_cons (pe_ix ix_tup (pv 0) pe_int (fun _ _ => rfl)) pa_nil))
      (pe_one (pe_call G hr (by rfl) gN kN b .nil pass0 (pa_cons (pe_ix ix_tup (pv 0) pe_int (fun _ _ => rfl)) pa_nil))))))), ?_⟩
    refine ⟨_, rfl, _, _, _, _, true, rfl, .ty _, .base (.tup h), kit_ty (by decide +kernel), _, rfl, ?_⟩
    refine ⟨_, rfl, p, _, rfl, .inr (SqT.of h), ?_⟩
    refine ⟨rfl, _, rfl, ?_⟩
    rw [show decide (V.int (([V.str a, V.str x].length : Nat) : Int) = V.int 2) = true from decide_eq_true rfl, if_pos rfl]
    refine ⟨_, rfl, p, _, _, _, rfl, rfl, SqT.of h, atI_nat (xs := [V.str a, V.str x]) (j := 0) rfl, _, rfl, .inl ⟨a, rfl, na, _, rfl, ?_⟩⟩
    rw [na2, if_pos rfl]
    refine ⟨_, rfl, p, _, _, _, rfl, rfl, SqT.of h, atI_nat (xs := [V.str a, V.str x]) (j := 1) rfl, _, rfl, .inl ⟨x, rfl, nx, ?_⟩⟩
    rw [nx2]
    exact q
end
abbrev sAsc : Stmt := top 18
theorem scAsc : FnScope ["values"] ["values"] (defScope sAsc) := ⟨rfl, rfl, rfl, by decide +kernel, rfl, by decide +kernel, by decide +kernel⟩
/-- the key of a text -/
def keyS : V → Str
  | .str x => x
  | _ => ⟨#[]⟩
theorem byKey_strs (ns : List Str) : byKey keyS (ns.map V.str) = (srt ns).map V.str := by
  unfold byKey srt
  rw [PySem.W.dataLe_str]
  exact (PySem.W.sort_maps (r := fun a b : Str => decide (a.cps.toList ≤ b.cps.toList)) (s := fun a b : V => decide ((keyS a).cps.toList ≤ (keyS b).cps.toList)) V.str fun _ _ _ _ => rfl).symm
theorem KeyV.strs {H : Hp} (ns : List Str) : ∀ x ∈ ns.map V.str, KeyV H x (keyS x) := fun x hx => by
  obtain ⟨n, _, rfl⟩ := List.mem_map.mp hx
  exact .str n
def spAsc (K : PySem.W.Frag) : Sp := fun vs H Q _ => ∃ (a : Addr) (xs : List V) (key : V → Str), vs = [.ref a] ∧ SqL K H a xs ∧ (∀ x ∈ xs, KeyV H x (key x)) ∧ ∀ p H', Ex H H' → H p = none → H' p = some (.tup (byKey key xs)) → Q (.ref p) H'
theorem spAsc_len {K : PySem.W.Frag} : ∀ vs H Q E, spAsc K vs H Q E → vs.length = (["values"] : List Str).length := fun vs H Q E h => by
  obtain ⟨a, xs, key, rfl, _⟩ := h
  rfl
theorem pe_callG {X : Cx} {x : Str} {f : Addr} {fd : FuncData} {k : Nat} {ps : List Str} {sp : Sp} {e : Expr} {es : List Expr} {t : TA} {p pos : Pos} (F : XG.FnG X.prog X.w X.K X.mg X.base CX0 k f fd ps sp) (len : ∀ vs H Q E, sp vs H Q E → vs.length = ps.length) (gd : X.A.guards = some []) (hr : Room k X.A) (hg : Gl X x) (hm : X.mg x = some (.ref f)) (hk : PySem.W.keepIn X.K (.ref f) = true) (hb : Binds X.K fd ps [])
    (ha : PA X (e :: es) t) (hdb : (x == ("__debug__" : Str)) = false := by decide) (he : starEach (e :: es) X.env = (false, eval e X.env) :: starEach es X.env := by rfl) (hpl : (backTo pos (starEach es X.env)).any (·.1) = false := by rfl) :
    PE X (.Call (.Name x p) (e :: es) [] pos) (tCall sp [] E0 t) := by
  refine ⟨fun pins s σ H Q I h => wpAny_Call_Name_kw (ld_glob I hg hm ?_ hdb)⟩
  refine PySem.W.callWith_K (h₀ := X.base) I.ok.mod.kin hk (thn (ha.run pos pins s σ H _ I h) fun us s1 ⟨vs, H1, I1, r, q⟩ => ⟨I1.kIn, ?_⟩) he hpl
  replace q : sp vs H1 Q E0 := by
    have z : sp (vs ++ []) H1 Q E0 := q
    rw [List.append_nil] at z
    exact z
  have n : (us ++ []).length = ps.length := by rw [List.append_nil, ← r.length]; exact len _ _ _ _ q
  refine wpAny_call (codeAny_mono (F X.A X.stack s1 H1 ⟨us, []⟩ (us ++ []) vs Q E0 gd hr I1.env0 (hb s1 us I1.kIn n) (by rw [List.append_nil]; exact r) q) fun r' s' hq => ?_)
  cases r' with
  | error e => exact (show False from hq).elim
  | ok fl =>
    cases fl with
    | ret u => exact I1.after hq
    | next => exact False.elim hq
    | brk => exact False.elim hq
    | cont => exact False.elim hq
section
variable {P : Program} {w : World} {K : PySem.W.Frag} {mg : Str → Option Value} {base : Heap} {f fA fU : Addr} {fd fdA fdU : FuncData}
theorem ok_asc (F : Fun K "ascending" "ascending" sAsc f fd) (T : Blt mg) (T2 : Blt2 mg) : FnG P w K mg base CX0 1 f fd ["values"] (spAsc K) := by
  refine Fun.okG F scAsc spAsc_len fun cdv A outer s H vs Q E gd hr h => ?_
  obtain ⟨a, xs, key, rfl, hs, hk, q⟩ := h
  have hu := hr.un
  refine ⟨_, pss_one (ps_ret (pe_tupleOf (by rfl) T2.tuple (pe_callBK (cr_sortedStr gd (by show A.units + 3 + 80 < cLine; have : A.units + 3 + 16 * 0 + 200 < cLine := hu; omega)) (by rfl) T2.sorted (by decide +kernel) (pa_cons (pv 0) pa_nil) (pk_cons (pe_bltn (v := .ty "str") (by rfl) T.str (by decide +kernel) rfl) pk_nil)))), ?_⟩
  refine ⟨_, rfl, a, xs, key, rfl, rfl, hs, hk, fun p hp => .inl ⟨p, _, rfl, SqL.of upd_same, fun p2 hp2 => q p2 _ ((Ex.new hp).trans (Ex.new hp2)) ((Ex.new hp).back hp2) upd_same⟩⟩
end
def toD : Key → PyData
  | .inl i => .int i
  | .inr x => .str x
def dOf : V → PyData
  | .str x => .str x
  | .int i => .int i
  | _ => .none
theorem dOf_kV (k : Key) : dOf (kV k) = toD k := by cases k <;> rfl
/-- a key as Python shows it -/
def textK (k : List Key) : Str := (PyData.tuple (k.map toD)).shown
def leK : List Key → List Key → Bool := PySem.W.dataLe false fun k => PyData.str (textK k)
def sortK (ks : List (List Key)) : List (List Key) := ks.mergeSort leK
def keyH (H : Hp) : V → Str
  | .ref b => match H b with
    | some (.tup ys) => (PyData.tuple (ys.map dOf)).shown
    | _ => ⟨#[]⟩
  | _ => ⟨#[]⟩
theorem keyH_of {H : Hp} {b : Addr} {k : List Key} (h : H b = some (.tup (k.map kV))) : keyH H (.ref b) = textK k := by
  unfold keyH textK
  show (match H b with
    | some (.tup ys) => (PyData.tuple (ys.map dOf)).shown
    | _ => ⟨#[]⟩) = _
  rw [h]
  show (PyData.tuple ((k.map kV).map dOf)).shown = _
  rw [List.map_map, show dOf ∘ kV = toD from funext dOf_kV]
theorem name_small {x : Str} (h : nameB x = true) : x.length ≤ 8 ∧ ∀ c ∈ x.cps.toList, c < 16 ^ 8 := by
  unfold nameB at h
  simp only [Bool.and_eq_true, decide_eq_true_eq] at h
  refine ⟨by have := h.1.1.1.1; omega, fun c hc => ?_⟩
  have a := h.1.1.2
  unfold Txt.isascii at a
  rw [← Array.all_toList, List.all_eq_true] at a
  have := of_decide_eq_true (a c hc)
  exact Nat.lt_trans this (by decide)
theorem text_len {a x : Str} (ha : nameB a = true) (hx : nameB x = true) : (textK (key2 a x)).length ≤ 100000 := by
  obtain ⟨a1, a2⟩ := name_small ha
  obtain ⟨x1, x2⟩ := name_small hx
  have b1 := StrLaws.reprText_len a a2
  have b2 := StrLaws.reprText_len x x2
  show (("(" : Str) ++ Str.join ", " [reprText a, reprText x] ++ ((")" : String) : Str)).length ≤ 100000
  have j := join_length_add [reprText a, reprText x] (by simp)
  rw [piled_cons, piled_cons] at j
  have z : piled [] = 0 := rfl
  rw [strLen_append, strLen_append, show (("(" : String) : Str).length = 1 from rfl, show ((")" : String) : Str).length = 1 from rfl]
  omega
/-- keys that are pairs of names -/
def PairK (k : List Key) : Prop := ∃ a x, k = key2 a x ∧ NameV (.str a) ∧ NameV (.str x)
theorem keyV_of {H : Hp} {b : Addr} {k : List Key} (h : H b = some (.tup (k.map kV))) (p : PairK k) : KeyV H (.ref b) (keyH H (.ref b)) := by
  rw [keyH_of h]
  obtain ⟨a, x, rfl, ⟨y, ey, _, ha⟩, ⟨z, ez, _, hx⟩⟩ := p
  cases ey
  cases ez
  exact .tup (ds := [.str a, .str x]) h (.cons (.str a) (.cons (.str x) .nil)) rfl (by show (1 : Nat) ≤ 60; decide) (text_len ha hx)
theorem all2_keys {H : Hp} : ∀ {l : List (List Key × Addr)}, (∀ p ∈ l, H p.2 = some (.tup (p.1.map kV))) → All2 H ((l.map (·.1)).map fun k => tupV (k.map kV)) (l.map fun p => V.ref p.2)
  | [], _ => .nil
  | p :: l, h => .cons ⟨p.2, rfl, h p (.head _)⟩ (all2_keys fun q hq => h q (.tail _ hq))
theorem zip_keys {H : Hp} : ∀ {kvs : List (List Key × V)} {bs : List Addr}, IsKeys H kvs bs → (∀ p ∈ (kvs.map (·.1)).zip bs, H p.2 = some (.tup (p.1.map kV))) ∧ ((kvs.map (·.1)).zip bs).map (·.1) = kvs.map (·.1) ∧ ((kvs.map (·.1)).zip bs).map (fun p => V.ref p.2) = bs.map V.ref
  | _, _, .nil => ⟨(fun p hp => by cases hp), rfl, rfl⟩
  | _, _, .cons h t => by
    obtain ⟨h1, h2, h3⟩ := zip_keys t
    refine ⟨fun p hp => ?_, ?_, ?_⟩
    · rcases List.mem_cons.mp hp with rfl | hp
      · exact h
      · exact h1 p hp
    · show _ :: _ = _ :: _
      exact congrArg _ h2
    · show _ :: _ = _ :: _
      exact congrArg _ h3
theorem asc_pairs {H : Hp} {r : TRow} {bs : List Addr} (h : IsKeys H (tents r) bs) (p : ∀ t ∈ r, PairK t.1) : (∀ x ∈ bs.map V.ref, KeyV H x (keyH H x)) ∧ All2 H ((sortK (r.map (·.1))).map fun k => tupV (k.map kV)) (byKey (keyH H) (bs.map V.ref)) := by
  obtain ⟨h1, h2, h3⟩ := zip_keys h
  have er : (tents r).map (·.1) = r.map (·.1) := by
    unfold tents
    rw [List.map_map]
    rfl
  rw [er] at h1 h2 h3
  generalize (r.map (·.1)).zip bs = L at h1 h2 h3
  rw [← h3, ← h2]
  refine ⟨fun x hx => ?_, ?_⟩
  · obtain ⟨q, hq, rfl⟩ := List.mem_map.mp hx
    refine keyV_of (h1 q hq) ?_
    have m : q.1 ∈ r.map (·.1) := by
      rw [← h2]
      exact List.mem_map.mpr ⟨q, hq, rfl⟩
    obtain ⟨t, ht, e⟩ := List.mem_map.mp m
    rw [← e]
    exact p t ht
  · have e1 : byKey (keyH H) (L.map fun p => V.ref p.2) = (L.mergeSort fun p q => leK p.1 q.1).map fun p => V.ref p.2 := by
      refine (PySem.W.sort_maps (fun p : List Key × Addr => V.ref p.2) fun a ha b hb => ?_).symm
      unfold leK
      rw [PySem.W.dataLe_str, PySem.W.dataLe_str]
      show decide ((textK a.1).cps.toList ≤ (textK b.1).cps.toList) = decide ((keyH H (V.ref a.2)).cps.toList ≤ (keyH H (V.ref b.2)).cps.toList)
      rw [keyH_of (h1 a ha), keyH_of (h1 b hb)]
    have e2 : sortK (L.map (·.1)) = (L.mergeSort fun p q => leK p.1 q.1).map (·.1) := (PySem.W.sort_maps (fun p : List Key × Addr => p.1) fun _ _ _ _ => rfl).symm
    rw [e1, e2]
    exact all2_keys fun q hq => h1 q ((List.mergeSort_perm _ _).mem_iff.mp hq)
end Tb

set_option Elab.async false
set_option linter.all false
set_option maxRecDepth 100000
set_option maxHeartbeats 4000000
/-! d.values(), d.items(), d a dict whose keys are tuples. -/
namespace L2
open PySem PySem.Spec PyProof.Rows
section
variable {X : Cx} {pins : List (Addr × Obj)} {σ : St} {H : Hp} {s : Shared} {d : Addr} {o : Obj}
theorem Inv.frzT2 {kvs : List (List Key × V)} (I : Inv X pins σ H s) (h : H d = some (.frz o (.dT kvs))) :
    (d == sysModules) = false ∧ s.heap.get? d = some o ∧ ∃ (es : Array DictEntry) (ep : Nat), o.data = .dict es ep ∧ s.heap.DictRaw d es ep ∧ es.size = kvs.length ∧
      ∀ (i : Nat) (k : List Key) (v : V) (hi : i < es.size), kvs[i]? = some (k, v) → ∃ q : Addr, es[i].key = .ref q ∧ H q = some (.tup (k.map kV)) ∧ RelV v es[i].val := by
  obtain ⟨hd, z, hs, xs, pr, o', es, ep, ho, hx, hdt, he, _⟩ := I.hok d _ h
  rw [hd] at ho
  cases ho
  refine ⟨hs, hd, es, ep, hdt, ⟨o, hd, hx, hdt⟩, ?_, fun i k v hi e => ?_⟩
  · have l1 : es.size = xs.length := size_of_entries he
    have l2 : kvs.length = xs.length := Paired.length pr
    omega
  · obtain ⟨b, hb, e1, e2, e3⟩ := paired_get pr e
    have q := entry_at he i
    rw [hb, Array.getElem?_eq_getElem hi] at q
    have q' := Option.some.inj q
    refine ⟨b.2.1, ?_, e2, ?_⟩
    · rw [q']
      rfl
    · rw [q']
      exact e3
end
/-- the values -/
def Itdt (d : Addr) (o : Obj) (kvs : List (List Key × V)) : It :=
  ⟨fun i H => H d = some (.frz o (.dT kvs)) ∧ i < kvs.length, fun i H x H' => H' = H ∧ ∃ k, kvs[i]? = some (k, x), fun i H => H d = some (.frz o (.dT kvs)) ∧ kvs.length ≤ i⟩
/-- the pairs, each a new tuple of the key's own tuple and the value -/
def Itit (d : Addr) (o : Obj) (kvs : List (List Key × V)) : It :=
  ⟨fun i H => H d = some (.frz o (.dT kvs)) ∧ i < kvs.length, fun i H x H' => ∃ (T : Addr) (k : List Key) (v : V) (q : Addr), kvs[i]? = some (k, v) ∧ x = .ref T ∧ H q = some (.tup (k.map kV)) ∧ H T = none ∧ H' = upd H T (.tup [.ref q, v]), fun i H => H d = some (.frz o (.dT kvs)) ∧ kvs.length ≤ i⟩
section
variable {P : Program} {w : World} {K : PySem.W.Frag} {tg : Expr} {d : Addr} {o : Obj} {es : Array DictEntry} {ep : Nat}
theorem turn_valsT {kvs : List (List Key × V)} (it : Addr) (hod : o.data = .dict es ep) : Turn P w K tg (Itdt d o kvs) [it] it (fun i h => h.IsValIter it d i kvs.length ep) where
  mem := by simp
  obj := fun i h st b hb => by
    have e : b = it := by simpa using hb
    subst e
    obtain ⟨oi, e, c, dd⟩ := st
    exact ⟨oi, e, fun v z => by rw [dd] at z; cases z⟩
  keep := fun i h h' st k => st.at fun oi e => k it (by simp) oi e
  item := by
    intro X hP hw hK hc i pins s σ H E I hf st hg
    subst hP hw hK
    obtain ⟨hd, hi⟩ := hg
    obtain ⟨f0, f1, f2, f3, f4, f5⟩ := hf it (by simp)
    obtain ⟨hs, hgd, es', ep', hdt, raw, hsz, ent⟩ := I.frzT2 hd
    obtain ⟨rfl, rfl⟩ := dict_ep hod hdt
    obtain ⟨⟨k, v⟩, hkv⟩ : ∃ p, kvs[i]? = some p := ⟨kvs[i], List.getElem?_eq_getElem hi⟩
    have hi' : i < es'.size := by omega
    obtain ⟨q, hkey, hq, rv⟩ := ent i k v hi' hkv
    rw [← hsz] at st
    refine wpAny_pyNext_values_item_raw st raw hi' fun h' st' sb => ?_
    have I1 : Inv X pins σ H { s with heap := h' } := I.turned (t' := s.toks) (fun b ob hb e => (sb.2 b hb).trans e) f0 f1 f3 f4 f5
    obtain ⟨oi, e, c, dd⟩ := id st'
    refine ⟨_, rfl, go_of (s := { s with heap := h' }) e c dd (by decide) ⟨v, H, I1, rv, ⟨rfl, k, hkv⟩, ?_, fun b hb => (hf b hb).1⟩⟩
    show h'.IsValIter it d (i + 1) kvs.length _
    rw [← hsz]
    exact st'
  done := by
    intro X hP hw hK hc i pins s σ H E I hf st hg
    subst hP hw hK
    obtain ⟨hd, hi⟩ := hg
    obtain ⟨f0, f1, f2, f3, f4, f5⟩ := hf it (by simp)
    obtain ⟨hs, hgd, es', ep', hdt, raw, hsz, ent⟩ := I.frzT2 hd
    obtain ⟨rfl, rfl⟩ := dict_ep hod hdt
    rw [← hsz] at st
    exact wpAny_pyNext_values_end_raw (I.ok.hd hc) st raw (by omega) fun h' eb => ⟨rfl, I.turned (t' := s.toks) (fun b ob hb e => eb b ob hb e) f0 f1 f3 f4 f5⟩
  self := fun A i s Q E st h => wpAny_pyIter_valiter st h
theorem turn_itemsT {kvs : List (List Key × V)} {elts : List Expr} {kk : Nat} {tpos : Pos} (it : Addr) (hod : o.data = .dict es ep) :
    Turn P w K (.Tuple elts kk tpos) (Itit d o kvs) [it] it (fun i h => ∃ ok ov, IsItemIter h it d i kvs.length ep ok ov) where
  mem := by simp
  obj := fun i h st b hb => by
    have e : b = it := by simpa using hb
    subst e
    obtain ⟨ok, ov, e⟩ := st
    exact ⟨_, e, fun v z => nomatch z⟩
  keep := fun i h h' st k => let ⟨ok, ov, e⟩ := st; ⟨ok, ov, k it (by simp) _ e⟩
  item := by
    intro X hP hw hK hc i pins s σ H E I hf st hg
    subst hP hw hK
    obtain ⟨hd, hi⟩ := hg
    obtain ⟨hs, hgd, es', ep', hdt, raw, hsz, ent⟩ := I.frzT2 hd
    obtain ⟨rfl, rfl⟩ := dict_ep hod hdt
    obtain ⟨⟨k, v⟩, hkv⟩ : ∃ p, kvs[i]? = some p := ⟨kvs[i], List.getElem?_eq_getElem hi⟩
    have hi' : i < es'.size := by omega
    obtain ⟨q, hkey, hq, rv⟩ := ent i k v hi' hkv
    obtain ⟨ok, ov, he⟩ := st
    rw [← hsz] at he
    have hlt : it < s.heap.objs.size := Heap.lt_size he
    refine wpAny_pyNext_items_item_raw he raw hi' fun h' ho hT hz hk => ?_
    refine ⟨_, rfl, wpAny_letOwnedTupleGo_items (s := { s with heap := h' }) ho fun h'' he' sb => ?_⟩
    have hT2 : h''.get? s.heap.objs.size = some { cls := .type "tuple", data := .seq #[es'[i].key, es'[i].val] } := (sb.2 _ (Nat.ne_of_gt hlt)).trans hT
    have new : ObjOk X.prog X.w (upd H s.heap.objs.size (.tup [.ref q, v])) h'' s.heap.objs.size (.tup [.ref q, v]) :=
      ⟨by show 2 ≤ sizeLine; decide, [es'[i].key, es'[i].val], .cons hkey (.cons rv .nil), ⟨_, hT2, rfl, _, rfl⟩⟩
    have I1 : Inv X pins σ (upd H s.heap.objs.size (.tup [.ref q, v])) { s with heap := h'' } :=
      I.turnedNew (t' := s.toks) (ch := [it]) (fun b ob hb e => (sb.2 b (by simpa using hb)).trans (hk b ob (by simpa using hb) e)) hf (Nat.le_refl _) new
    refine ⟨.ref s.heap.objs.size, _, I1, rfl, ⟨_, k, v, q, hkv, rfl, hq, I.hok.fresh (Nat.le_refl _), rfl⟩, ⟨es'[i].key, es'[i].val, ?_⟩, fun b hb => ?_⟩
    · rw [← hsz]
      exact he'
    · have e : b = it := by simpa using hb
      rw [e, upd_ne (Nat.ne_of_lt hlt)]
      exact (hf it (by simp)).1
  done := by
    intro X hP hw hK hc i pins s σ H E I hf st hg
    subst hP hw hK
    obtain ⟨hd, hi⟩ := hg
    obtain ⟨f0, f1, f2, f3, f4, f5⟩ := hf it (by simp)
    obtain ⟨hs, hgd, es', ep', hdt, raw, hsz, ent⟩ := I.frzT2 hd
    obtain ⟨rfl, rfl⟩ := dict_ep hod hdt
    obtain ⟨ok, ov, he⟩ := st
    rw [← hsz] at he
    exact wpAny_pyNext_items_end_raw (I.ok.hd hc) he raw (by omega) fun h' eb => ⟨rfl, I.turned (t' := s.toks) (fun b ob hb e => eb b ob hb e) f0 f1 f3 f4 f5⟩
  self := fun A i s Q E st h => let ⟨_, _, e⟩ := st; PySem.W.kcp_self e h
end
def iValsT (td : TE) : TI := fun σ H R => td σ H fun x H1 => ∃ d o kvs, x = .ref d ∧ H1 d = some (.frz o (.dT kvs)) ∧ R (Itdt d o kvs) H1
def iItemsT (td : TE) : TI := fun σ H R => td σ H fun x H1 => ∃ d o kvs, x = .ref d ∧ H1 d = some (.frz o (.dT kvs)) ∧ R (Itit d o kvs) H1
section
variable {X : Cx} {tg e : Expr} {td : TE} {apos cpos : Pos}
theorem pi_valuesT (he : PE X e td) (hbase : attributeBase e "values" X.env (eval e X.env) = eval e X.env := by rfl) (hline : (apos.endLine == cpos.line) = true := by rfl) : PI X tg (.Call (.Attribute e "values" apos) [] [] cpos) (iValsT td) := by
  refine ⟨fun pins s σ H R I h => ?_⟩
  refine wpAny_Call_method (T := "dict") (id := "dict.values") hbase rfl hline F.plainAttrs_dict F.slot_dict_values F.type_dict_values (thn (he.run pins s σ H _ I h) fun u s1 ⟨x, H1, I1, rx, d, o, kvs, ex, hd, q⟩ => ?_)
  subst ex
  obtain rfl : u = Value.ref d := rx
  obtain ⟨hs, hgd, es, ep, hdt, raw, hsz, ent⟩ := I1.frzT2 hd
  refine ⟨raw.typeIs, ?_, ?_⟩
  · obtain ⟨o', ho', hx', _⟩ := id raw
    exact fun b e => by injection e with e; subst e; exact ⟨o', ho', hx'.2.1⟩
  have I2 : Inv X pins σ H1 { s1 with heap := s1.heap.push { cls := .type "dict_values", data := .fields #[.ref d] } } := I1.kept (t' := s1.toks) fun b ob q => Heap.get?_push_of_some _ q
  have fin : wpAny (model X.prog X.w) X.A (pyIter (.ref s1.heap.objs.size)) (PIE X pins σ tg R) X.xe { s1 with heap := s1.heap.push { cls := .type "dict_values", data := .fields #[.ref d] } } := by
    refine wpAny_pyIter_values_raw (d := d) ⟨_, Heap.get?_push_size _ rfl, rfl, rfl⟩ (raw.at fun o e => Heap.get?_push_of_some _ e) (pi_one (tk := s1.toks) I2 _ (turn_valsT _ hdt) ⟨_, Heap.get?_push_size _ rfl, rfl, ?_⟩ q)
    rw [hsz] <;> rfl
  show wpAny _ _ (callWith cpos (.builtin "dict.values") [.ref d] [] []) _ X.xe s1
  exact method_meetsIn F.slot_dict_values F.entry_dict_values rfl (PySem.evalArgs_none ⟨rfl, raw.typeIs, F.args_dict_values_1 _, _, meets_dict_values_raw d hs, ⟨es, ep, raw⟩, fin⟩)
theorem pi_itemsT {elts : List Expr} {kk : Nat} {tpos : Pos} (he : PE X e td) (hbase : attributeBase e "items" X.env (eval e X.env) = eval e X.env := by rfl) (hline : (apos.endLine == cpos.line) = true := by rfl) :
    PI X (.Tuple elts kk tpos) (.Call (.Attribute e "items" apos) [] [] cpos) (iItemsT td) := by
  refine ⟨fun pins s σ H R I h => ?_⟩
  refine wpAny_Call_method (T := "dict") (id := "dict.items") hbase rfl hline F.plainAttrs_dict F.slot_dict_items F.type_dict_items (thn (he.run pins s σ H _ I h) fun u s1 ⟨x, H1, I1, rx, d, o, kvs, ex, hd, q⟩ => ?_)
  subst ex
  obtain rfl : u = Value.ref d := rx
  obtain ⟨hs, hgd, es, ep, hdt, raw, hsz, ent⟩ := I1.frzT2 hd
  refine ⟨raw.typeIs, ?_, ?_⟩
  · obtain ⟨o', ho', hx', _⟩ := id raw
    exact fun b e => by injection e with e; subst e; exact ⟨o', ho', hx'.2.1⟩
  have I2 : Inv X pins σ H1 { s1 with heap := s1.heap.push { cls := .type "dict_items", data := .fields #[.ref d] } } := I1.kept (t' := s1.toks) fun b ob q => Heap.get?_push_of_some _ q
  have fin : wpAny (model X.prog X.w) X.A (pyIter (.ref s1.heap.objs.size)) (PIE X pins σ (.Tuple elts kk tpos) R) X.xe { s1 with heap := s1.heap.push { cls := .type "dict_items", data := .fields #[.ref d] } } := by
    refine wpAny_pyIter_items_raw (d := d) ⟨_, Heap.get?_push_size _ rfl, rfl, rfl⟩ (raw.at fun o e => Heap.get?_push_of_some _ e) (pi_one (tk := s1.toks) I2 _ (turn_itemsT _ hdt) ⟨.none, .none, ?_⟩ q)
    rw [← hsz]
    exact Heap.get?_push_size _ rfl
  show wpAny _ _ (callWith cpos (.builtin "dict.items") [.ref d] [] []) _ X.xe s1
  exact method_meetsIn F.slot_dict_items F.entry_dict_items rfl (PySem.evalArgs_none ⟨rfl, raw.typeIs, F.args_dict_items_1 _, _, meets_dict_items_raw d hs, ⟨es, ep, raw⟩, fin⟩)
end
section
variable {d : Addr} {o : Obj}
theorem walk_valsT {kvs : List (List Key × V)} : Walk (Itdt d o kvs) kvs.length (fun H => H d = some (.frz o (.dT kvs))) (fun i H x H' => H' = H ∧ ∃ k, kvs[i]? = some (k, x)) :=
  ⟨fun _ _ hi q => ⟨q, hi⟩, fun _ q => ⟨q, Nat.le_refl _⟩, fun _ _ _ _ _ _ y => y⟩
/-- the pairs: a new tuple of the key's own tuple and the value -/
theorem walk_itemsT {kvs : List (List Key × V)} : Walk (Itit d o kvs) kvs.length (fun H => H d = some (.frz o (.dT kvs)))
    (fun i H x H' => ∃ (T : Addr) (k : List Key) (v : V) (q : Addr), kvs[i]? = some (k, v) ∧ x = .ref T ∧ H q = some (.tup (k.map kV)) ∧ H T = none ∧ H' = upd H T (.tup [.ref q, v])) :=
  ⟨fun _ _ hi q => ⟨q, hi⟩, fun _ q => ⟨q, Nat.le_refl _⟩, fun _ _ _ _ _ _ y => y⟩
end
end L2

set_option Elab.async false
set_option linter.all false
set_option maxRecDepth 100000
set_option maxHeartbeats 4000000
/-! list(d.values()). -/
namespace Cm
open PySem PySem.Spec PyProof.Rows L2 EvP
theorem kv_vals : ∀ {kvs : List (Key × V)} {vs : List (Key × Value)}, KV kvs vs → Vals (kvs.map (·.2)) (vs.map (·.2))
  | [], [], _ => .nil
  | _ :: _, _ :: _, .cons a t => .cons a.2 (kv_vals t)
def tListVals (td : TE) : TE := fun σ H Q => td σ H fun x H1 => ∃ (a : Addr) (kvs : List (Key × V)), x = .ref a ∧ H1 a = some (.dK kvs) ∧ ∀ p, H1 p = none → Q (.ref p) (upd H1 p (.lst (kvs.map (·.2))))
theorem pe_listVals {X : Cx} {o : Expr} {td : TE} {p pos apos mpos : Pos} (hc : X.calm = true) (hg : Gl X "list") (hm : X.mg "list" = none) (hd : PE X o td) (hbase : attributeBase o "values" X.env (eval o X.env) = eval o X.env := by rfl) (hline : (apos.endLine == mpos.line) = true := by rfl)
    (hse : starEach [Expr.Call (.Attribute o "values" apos) [] [] mpos] X.env = [(false, eval (Expr.Call (.Attribute o "values" apos) [] [] mpos) X.env)] := by rfl) :
    PE X (.Call (.Name "list" p) [.Call (.Attribute o "values" apos) [] [] mpos] [] pos) (tListVals td) := by
  refine ⟨fun pins s σ H Q I h => ?_⟩
  refine wpAny_Call_Name_kw (ld_blt I hg hm (u := .type "list") (by decide +kernel) ?_ (by decide +kernel) (by decide +kernel))
  rw [hse]
  refine PySem.callWith_type1 (wpAny_Call_method0_late hbase hline (thn (hd.run pins s σ H _ I h) fun v s1 ⟨x, H1, I1, r1, a, kvs, ev, ha, q⟩ => ?_))
  subst ev
  obtain rfl : v = Value.ref a := r1
  obtain ⟨z, sy, vs, rel, dof⟩ := dk_of I1.hok ha
  obtain ⟨ep, dat⟩ := dof.dictAt
  have d2 := dat
  obtain ⟨ob, es, ho, ex, _⟩ := d2
  refine ⟨"dict", "dict.values", F.plainAttrs_dict, F.slot_dict_values, F.type_dict_values, ⟨ob, ho, ex.1⟩, fun b e => ?_, Calls.callWith_builtin rfl (PySem.evalArgs_none ?_)⟩
  · cases e
    exact ⟨ob, ho, ex.2.1⟩
  refine call_meetsIn F.slot_dict_values ⟨ob, ho, ex.1⟩ F.entry_dict_values (F.args_dict_values_1 _) (meets_dict_values (mixKind X.prog X.w) a sy) ⟨⟨vs, dof⟩, ?_⟩
  have k1 : ∀ b u, s1.heap.get? b = some u → (s1.heap.push { cls := .type "dict_values", data := .fields #[.ref a] }).get? b = some u := fun b u e => Heap.get?_push_of_some _ e
  have sz : (s1.heap.push { cls := .type "dict_values", data := .fields #[.ref a] }).objs.size = s1.heap.objs.size + 1 := Heap.size_push _ _
  refine PySem.W.kdl_call (PySem.W.kdl_values (knd := mixKind X.prog X.w) (r := s1.heap.objs.size) (d := a) (kvs := vs) (ep := ep)) (I.ok.hd hc) ⟨⟨_, Heap.get?_push_size _ rfl, rfl, rfl⟩, dat.keep k1⟩ (by rw [← rel.length]; exact z) fun h2 tk acc c2 hk hD hacc => ?_
  have hl : acc.toList = vs.map (·.2) := by
    refine List.ext_getElem? fun j => ?_
    rw [List.getElem?_map, Array.getElem?_toList]
    cases hj : acc[j]? with
    | some v =>
      obtain ⟨k, hk2⟩ := hacc.2 j v hj
      rw [hk2]
      rfl
    | none =>
      have : vs.length ≤ j := by
        rw [← hacc.1]
        exact Array.getElem?_eq_none_iff.mp hj
      rw [List.getElem?_eq_none_iff.mpr this]
      rfl
  have new : ObjOk X.prog X.w (upd H1 (s1.heap.objs.size + 1) (.lst (kvs.map (·.2)))) h2 (s1.heap.objs.size + 1) (.lst (kvs.map (·.2))) :=
    ⟨by rw [List.length_map]; exact z, acc.toList, c2, by rw [hl]; exact kv_vals rel, by rw [Array.toArray_toList, ← sz]; exact hD⟩
  have nn : H1 (s1.heap.objs.size + 1) = none := I1.hok.fresh (Nat.le_succ _)
  refine ⟨.ref (s1.heap.objs.size + 1), upd H1 (s1.heap.objs.size + 1) (.lst (kvs.map (·.2))), I1.laid (t' := tk) (fun b u e => hk b u (k1 b u e)) (Nat.le_succ _) new, ?_, q _ nn⟩
  show Value.ref _ = Value.ref _
  rw [sz]
end Cm

set_option Elab.async false
set_option linter.all false
set_option maxRecDepth 100000
set_option maxHeartbeats 4000000
/-! Side.of. -/
namespace Fk
open PySem PySem.Spec PyProof.Rows L2 EvP Cm
abbrev sOf : Stmt := meth 1
/-- a new side -/
theorem made_of {C : Addr} {kvs : Row} {H : Hp} {Q : VK} (g : Good kvs) (q : ∀ a H', Ex H H' → SideN C H H' a (told kvs) → Q (.ref a) H') : Mrg.MadeW C (spInit C) E0 (kvs.map fun t => (t.1, V.int t.2)) H Q := by
  intro x dx hx hdx ne d hd dn
  have dxx : d ≠ x := fun z => by
    rw [z] at hd
    unfold Mrg.made at hd
    rw [upd_same] at hd
    cases hd
  have en : Mrg.nms (kvs.map fun t => (t.1, V.int t.2)) = ents kvs := by
    unfold Mrg.nms ents
    rw [List.map_map]
    rfl
  have ex : Ex H (upd (Mrg.made H C x dx) d (.dK (Mrg.nms (kvs.map fun t => (t.1, V.int t.2))))) := fun b o hb => by
    have m : Mrg.made H C x dx b = some o := by
      unfold Mrg.made
      rw [upd_ne (ne_of_none hb hx), upd_ne (ne_of_none hb hdx)]
      exact hb
    rw [upd_ne (ne_of_none m hd)]
    exact m
  refine ⟨x, d, dx, kvs, rfl, ?_, ?_, g, fun H' k s => ⟨rfl, q x H' (fun b o hb => k b o ?_ (ne_of_none hb hx)) (SideN.back ex s)⟩⟩
  · rw [upd_ne dxx.symm]
    exact upd_same
  · rw [upd_same, en]
  · have m : Mrg.made H C x dx b = some o := by
      unfold Mrg.made
      rw [upd_ne (ne_of_none hb hx), upd_ne (ne_of_none hb hdx)]
      exact hb
    rw [upd_ne (ne_of_none m hd)]
    exact m
theorem good_kws {kvs : Row} (g : Good kvs) : Mrg.Kws "side_itself" (kvs.map fun t => (t.1, V.int t.2)) where
  nod := by
    rw [List.map_map]
    exact g.nod
  no := fun y hy e => by
    obtain ⟨t, ht, rfl⟩ := List.mem_map.mp hy
    obtain ⟨z, ez, _, hn⟩ := g.nm t ht
    cases ez
    rw [show t.1 = "side_itself" from e] at hn
    revert hn
    decide +kernel
  few := by
    rw [List.length_map, sizeLine_eq]
    have := g.few
    omega
def spOf (C : Addr) : Sp := fun vs H Q _ => ∃ (d : Addr) (kvs : Row), vs = [.ref C, .ref d] ∧ H d = some (.dK (ents kvs)) ∧ Good kvs ∧ ∀ a H', Ex H H' → SideN C H H' a (told kvs) → Q (.ref a) H'
theorem scOf : FnScope ["cls", "amounts"] ["cls", "amounts"] (defScope sOf) := ⟨rfl, rfl, rfl, by decide +kernel, rfl, by decide +kernel, by decide +kernel⟩
section
variable {P : Program} {w : World} {K : PySem.W.Frag} {mg : Str → Option Value} {base : Heap} {C f fN fA fI : Addr} {fd fdN fdA : FuncData}
theorem ok_of (F : Fun K "of" "Side.of" sOf f fd) (T : Blt mg) (hD : mg "dict" = none) (hL : mg "list" = none) (G : FnOk P w K mg base CX0 2 fN fdN ["values"] (spAll K NameV)) (bN : Binds K fdN ["values"] []) (gN : mg "check_names" = some (.ref fN)) (kN : PySem.W.keepIn K (.ref fN) = true)
    (GA : FnOk P w K mg base CX0 3 fA fdA ["values"] (spAll K AmtV)) (bA : Binds K fdA ["values"] []) (gA : mg "check_amounts" = some (.ref fA)) (kA : PySem.W.keepIn K (.ref fA) = true)
    (M : Mk K C fI) (GI : Mrg.KwOk P w K mg base CX0 4 fI "side_itself" (spInit C)) (gS : mg "Side" = some (.ref C)) : FnOk P w K mg base CX0 6 f fd ["cls", "amounts"] (spOf C) := by
  refine F.ok scOf (fun vs H Q E h => ?_) (fun cdv A outer s H vs Q E hr h => ?_)
  · obtain ⟨d, kvs, rfl, _⟩ := h
    rfl
  · obtain ⟨d, kvs, rfl, hd, g, q⟩ := h
    refine ⟨_, pss_cons (ps_if (pt_not (pt_val (pe_callB call_isi (by rfl) T.isi (by decide +kernel) (pa_cons (pv 1) (pa_cons (pe_bltn (v := .ty "dict") (by rfl) hD (by decide +kernel) rfl) pa_nil))))) (pss_one ps_dead) pss_nil)
      (pss_cons (ps_expr (pe_call G (hr.mono (by decide)) (by rfl) gN kN bN .nil pass0 (pa_cons (pe_callTy (T := "list") (call_listD rfl) (by rfl) hL (by decide +kernel) (pa_cons (pv 1) pa_nil)) pa_nil)))
      (pss_cons (ps_expr (pe_call GA (hr.mono (by decide)) (by rfl) gA kA bA .nil pass0 (pa_cons (pe_listVals rfl (by rfl) hL (pv 1)) pa_nil)))
      (pss_one (ps_ret (Mrg.pe_makeD M GI hr (by rfl) gS pass0 (pv 1)))))), ?_⟩
    refine ⟨_, rfl, _, _, _, _, true, rfl, .ty _, .base (.dK hd), kit_ty (by decide +kernel), _, rfl, ?_⟩
    refine ⟨_, rfl, d, ents kvs, rfl, .inl hd, fun p1 h1 => ⟨p1, _, rfl, SqL.of upd_same, fun y hy => ?_, ?_⟩⟩
    · obtain ⟨e, he, rfl⟩ := List.mem_map.mp hy
      obtain ⟨t, ht, rfl⟩ := List.mem_map.mp he
      exact g.nm t ht
    have e1 := Ex.new (H := H) (o := .lst ((ents kvs).map fun kv => kV kv.1)) h1
    refine ⟨_, rfl, d, ents kvs, rfl, e1 _ _ hd, fun p2 h2 => ⟨p2, _, rfl, SqL.of upd_same, fun y hy => ?_, ?_⟩⟩
    · obtain ⟨e, he, rfl⟩ := List.mem_map.mp hy
      obtain ⟨t, ht, rfl⟩ := List.mem_map.mp he
      exact ⟨t.2, rfl, g.am t ht⟩
    have e2 := Ex.new (o := .lst ((ents kvs).map (·.2))) h2
    intro c hc
    have e3 := Ex.new (o := .dK []) hc
    have en : Mrg.nms (kvs.map fun t => (t.1, V.int t.2)) = ents kvs := by
      unfold Mrg.nms ents
      rw [List.map_map]
      rfl
    have hd3 := e3 _ _ (e2 _ _ (e1 _ _ hd))
    have cd : c ≠ d := fun z => by
      rw [z] at hc
      rw [e2 _ _ (e1 _ _ hd)] at hc
      cases hc
    have exd : Ex H (upd (upd (upd (upd H p1 (.lst ((ents kvs).map fun kv => kV kv.1))) p2 (.lst ((ents kvs).map (·.2)))) c (.dK [])) c (.dK (Mrg.nms (kvs.map fun t => (t.1, V.int t.2))))) := fun b o hb => by
      have nb := ne_of_none (e2 _ _ (e1 _ _ hb)) hc
      rw [upd_ne nb, upd_ne nb]
      exact e2 _ _ (e1 _ _ hb)
    refine ⟨_, rfl, upd_same, d, kvs.map fun t => (t.1, V.int t.2), rfl, cd, .inl (by rw [en]; exact hd3), good_kws g, made_of g fun a H' e s => q a H' (fun b o hb => e b o (exd b o hb)) (SideN.back exd s)⟩
end
end Fk

set_option Elab.async false
set_option linter.all false
set_option maxRecDepth 100000
set_option maxHeartbeats 4000000
/-! {**d, k: v}. -/
namespace Mrg
open PySem PySem.Spec PyProof.Rows PySem.W L2
section
variable {prog : Program} {w : World} {κ : Type} [DecidableEq κ] {kd : KeyKind prog w κ} {A : Around} {E : Value → Shared → Prop} {s : Shared}
abbrev nil0 : Obj := { cls := .type "dict", data := .dict #[] }
theorem display_star {T1 Tk Tv : Sem Value} {Q : Value → Shared → Prop}
    (h : wpAny (model prog w) A T1 (fun v s1 => ∃ (o : Addr) (more : List (κ × Value)), v = .ref o ∧ s.heap.objs.size ≠ o ∧ (o == sysModules) = false ∧ s1.heap.DictOf kd s.heap.objs.size [] ∧ s1.heap.DictOf kd o more ∧ more.length < sizeLine ∧
      ∀ h2 : Heap, Heap.SameBut s.heap.objs.size s1.heap h2 → h2.DictOf kd s.heap.objs.size more → s.heap.objs.size ≠ h2.objs.size ∧ (h2.objs.size == sysModules) = false ∧
        wpAny (model prog w) A (evalPairs [(Tk, Tv)]) (fun vs s3 => ∃ (k : κ) (v key : Value), vs = [(key, v)] ∧ Carries kd vs [(k, v)] ∧ s3.heap.DictOf kd h2.objs.size [] ∧ 
          ∀ h3 : Heap, h3.DictOf kd h2.objs.size [(k, v)] → Heap.SameBut h2.objs.size s3.heap h3 → ∃ now : List (κ × Value), h3.DictOf kd s.heap.objs.size now ∧ now.length < sizeLine ∧
            ∀ h4 : Heap, h4.DictOf kd s.heap.objs.size (stored now k v) → Heap.SameBut s.heap.objs.size h3 h4 → Q (.ref s.heap.objs.size) { s3 with heap := h4, toks := s3.toks + 1 }) E { s1 with heap := h2.push nil0 })
      E { s with heap := s.heap.push nil0 }) : wpAny (model prog w) A (dictDisplay [(none, T1), (some Tk, Tv)]) Q E s := by
  unfold dictDisplay
  show wpAny _ _ (forIn [((none : Option (Sem Value)), T1), (some Tk, Tv)] ((none, []) : Option Addr × List (Sem Value × Sem Value)) _ >>= _) _ _ _
  refine wpAny_bind ?_
  rw [List.forIn_cons]
  refine wpAny_bind ?_
  show wpAny _ _ ((pure (none : Option Addr) : Sem (Option Addr)) >>= _) _ _ _
  refine wpAny_bind (wpAny_pure ?_)
  show wpAny _ _ (alloc nil0 >>= _) _ _ _
  refine wpAny_bind (wpAny_alloc (wpAny_bind (wpAny_holding (wpAny_mono h (fun v s1 z => ?_) fun _ _ y => y))))
  obtain ⟨o, more, rfl, ne, lo, hd, ho, hz, q⟩ := z
  have em : merged [] more = more := merged_nil_of_nodup _ (by
    obtain ⟨_, _, _, _, _, _, _, _, nod⟩ := ho
    exact nod)
  refine wpAny_bind (wpAny_onRaise (wpAny_tryCatch (wpAny_onRaise (wpAny_holding (merge_at (kd := kd) ne lo hd ho (fun y => nomatch y) (by rw [List.length_nil]; omega) fun h2 d2 o2 sb => ?_)))))
  rw [em] at d2
  obtain ⟨ne2, lo2, q2⟩ := q h2 sb d2
  refine wpAny_pure ?_
  show wpAny _ _ (forIn [(some Tk, Tv)] ((some s.heap.objs.size, []) : Option Addr × List (Sem Value × Sem Value)) _) _ _ _
  rw [List.forIn_cons]
  refine wpAny_bind ?_
  show wpAny _ _ (pure (ForInStep.yield ((some s.heap.objs.size, [(Tk, Tv)]) : Option Addr × List (Sem Value × Sem Value))) : Sem (ForInStep (Option Addr × List (Sem Value × Sem Value)))) _ _ _
  refine wpAny_pure ?_
  show wpAny _ _ (forIn ([] : List (Option (Sem Value) × Sem Value)) _ _) _ _ _
  rw [List.forIn_nil]
  refine wpAny_pure ?_
  refine wpAny_bind ?_
  show wpAny _ _ (holding [.ref s.heap.objs.size] (subDict [(Tk, Tv)]) >>= _) _ _ _
  refine wpAny_bind (wpAny_holding (wpAny_subDict (knd := kd) (by show 1 ≤ 15; decide) (wpAny_mono q2 (fun vs s3 z => ?_) fun _ _ y => y)))
  obtain ⟨k, v, key, rfl, cr, sd, q3⟩ := z
  refine ⟨[(k, v)], cr, sd, fun h3 d3 sb3 => ?_⟩
  obtain ⟨now, d3', hz3, q4⟩ := q3 h3 d3 sb3
  refine wpAny_bind (wpAny_onRaise (wpAny_holding (merge_at (kd := kd) ne2 lo2 d3' d3 (fun y => nomatch y) (by show now.length + 1 ≤ sizeLine; omega) fun h4 d4 o4 sb4 => wpAny_pure (wpAny_pure (q4 h4 d4 sb4)))))
end
section
variable {X : Cx} {pos : Pos} {e kx vx : Expr} {te tk tv : TE}
def tDispD (te tk tv : TE) : TE := fun σ H Q => ∀ g, H g = none → te σ (upd H g (.dK [])) fun x H1 => H1 g = some (.dK []) ∧ ∃ (o : Addr) (kvs : List (Key × V)), x = .ref o ∧ g ≠ o ∧ Rd H1 o (.dK kvs) ∧ kvs.length < sizeLine ∧
  ∀ g2, upd H1 g (.dK kvs) g2 = none → g ≠ g2 → tPairs [(tk, tv)] σ (upd (upd H1 g (.dK kvs)) g2 (.dK [])) fun ps H4 => H4 g2 = some (.dK []) ∧ H4 g = some (.dK kvs) ∧ ∃ k z, ps = [(kV k, z)] ∧ Q (.ref g) (upd (upd H4 g2 (.dK [(k, z)])) g (.dK (putK kvs k z)))
theorem pe_dispD (he : PE X e te) (hk : PPs X pos [some kx] [vx] [(tk, tv)]) : PE X (.Dict [none, some kx] [e, vx] pos) (tDispD te tk tv) := by
  refine ⟨fun pins s σ H Q I h => ?_⟩
  rw [arm_eval_Dict]
  refine wpAny_bind (wpAny_standAt ?_)
  show wpAny _ _ (dictDisplay [(none, (do let v ← eval e X.env; standAt pos; pure v)), (some (eval kx X.env), (do let v ← eval vx X.env; standAt pos; pure v))]) _ _ _
  refine display_star (kd := mixKind X.prog X.w) ?_
  have I0 : Inv X pins σ (upd H s.heap.objs.size (.dK [])) { s with heap := s.heap.push nil0 } :=
    I.laid (a := s.heap.objs.size) (o := .dK []) (t' := s.toks) (fun _ _ q => Heap.get?_push_of_some _ q) (Nat.le_refl _) (dk_empty s.heap I.big)
  refine wpAny_bind (thn (he.run pins _ σ _ _ I0 (h _ (I.hok.fresh (Nat.le_refl _)))) fun v s1 ⟨y, H1, I1, ry, hgd, o, kvs, ey, ne, rd, hz, hq⟩ => wpAny_bind (wpAny_standAt (wpAny_pure ?_)))
  subst ey
  obtain rfl : v = Value.ref o := ry
  obtain ⟨z, lo, vs, rel, dd⟩ := dk_rd I1.hok rd
  obtain ⟨z0, lo0, vs0, rel0, dd0⟩ := dk_of I1.hok hgd
  have e0 : vs0 = [] := by
    cases rel0
    rfl
  subst e0
  refine ⟨o, vs, rfl, ne, lo, dd0, dd, by rw [← rel.length]; exact hz, fun h2 sb d2 => ?_⟩
  have I2 : Inv X pins σ (upd H1 s.heap.objs.size (.dK kvs)) { s1 with heap := h2 } := d_write (t' := s1.toks) I1 (by rw [hgd]; exact True.intro) sb (let ⟨q, _, _, hq, _⟩ := d2; ⟨q, hq⟩) (dk_new z lo0 rel d2)
  have big2 : sysModules < h2.objs.size := I2.big
  have lt2 : s.heap.objs.size < h2.objs.size := by
    obtain ⟨q, _, _, hq, _⟩ := d2
    exact Heap.lt_size hq
  refine ⟨Nat.ne_of_lt lt2, by simpa using Nat.ne_of_gt big2, ?_⟩
  have I3 : Inv X pins σ (upd (upd H1 s.heap.objs.size (.dK kvs)) h2.objs.size (.dK [])) { s1 with heap := h2.push nil0 } :=
    I2.laid (a := h2.objs.size) (o := .dK []) (t' := s1.toks) (fun _ _ q => Heap.get?_push_of_some _ q) (Nat.le_refl _) (dk_empty h2 big2)
  have hn2 : (upd H1 s.heap.objs.size (.dK kvs)) h2.objs.size = none := I2.hok.fresh (Nat.le_refl _)
  refine thn (hk.run pins _ σ _ _ I3 (hq _ hn2 (Nat.ne_of_lt lt2))) fun ws s3 ⟨ps, H4, I4, rps, h42, h41, k, z, eps, q⟩ => ?_
  subst eps
  cases rps with
  | cons a t =>
    cases t
    obtain ⟨rk, rv⟩ := a
    obtain ⟨z4, lo4, vs4, rel4, dd4⟩ := dk_of I4.hok h42
    have e4 : vs4 = [] := by
      cases rel4
      rfl
    subst e4
    refine ⟨k, _, _, rfl, ⟨kV_is rk, rfl, True.intro⟩, dd4, fun h3 d3 sb3 => ?_⟩
    have I5 : Inv X pins σ (upd H4 h2.objs.size (.dK [(k, z)])) { s3 with heap := h3 } := d_write (t' := s3.toks) I4 (by rw [h42]; exact True.intro) sb3 (let ⟨q, _, _, hq, _⟩ := d3; ⟨q, hq⟩)
      (dk_new (by show 1 ≤ sizeLine; decide) lo4 (.cons ⟨rfl, rv⟩ .nil) d3)
    have h51 : (upd H4 h2.objs.size (.dK [(k, z)])) s.heap.objs.size = some (.dK kvs) := by
      rw [upd_ne (Nat.ne_of_lt lt2)]
      exact h41
    obtain ⟨z5, lo5, vs5, rel5, dd5⟩ := dk_of I5.hok h51
    refine ⟨vs5, dd5, by rw [← rel5.length]; exact hz, fun h4 d4 sb4 => ⟨.ref s.heap.objs.size, _, ?_, rfl, q⟩⟩
    exact d_write (s := { s3 with heap := h3 }) (t' := s3.toks + 1) I5 (by rw [h51]; exact True.intro) sb4 (let ⟨q, _, _, hq, _⟩ := d4; ⟨q, hq⟩) (dk_new (by have := length_putK kvs k z; omega) lo5 (rel5.put k rv) d4)
end
end Mrg

set_option Elab.async false
set_option linter.all false
set_option maxRecDepth 100000
set_option maxHeartbeats 4000000
/-! Side's smaller methods. -/
namespace Fk
open PySem PySem.Spec PyProof.Rows L2 EvP Cm
abbrev sLen : Stmt := meth 2
abbrev sHas : Stmt := meth 4
abbrev sItem : Stmt := meth 5
abbrev sWith : Stmt := meth 17
/-- with another amount of a name -/
def putR (ts : Row) (n : Str) (m : Int) : Row := if (ts.any fun t => decide (t.1 = n)) = true then ts.map fun t => if t.1 = n then (t.1, m) else t else ts ++ [(n, m)]
theorem ents_put (ts : Row) (n : Str) (m : Int) : ents (putR ts n m) = putK (ents ts) (Sum.inr n) (.int m) := by
  have an : ((ents ts).any fun kv => decide (kv.1 = (Sum.inr n : Key))) = ts.any fun t => decide (t.1 = n) := by
    unfold ents
    rw [List.any_map]
    refine congrArg (fun p => ts.any p) (funext fun t => ?_)
    by_cases h : t.1 = n
    · simp [h]
    · have : ¬ (Sum.inr t.1 : Key) = Sum.inr n := fun z => h (Sum.inr.inj z)
      simp [h, this]
  unfold putR putK
  rw [an]
  by_cases h : (ts.any fun t => decide (t.1 = n)) = true
  · rw [if_pos h, if_pos h]
    unfold ents
    rw [List.map_map, List.map_map]
    refine List.map_congr_left fun t _ => ?_
    by_cases e : t.1 = n
    · simp [e]
    · have : ¬ (Sum.inr t.1 : Key) = Sum.inr n := fun z => e (Sum.inr.inj z)
      simp [e, this]
  · rw [if_neg h, if_neg h]
    unfold ents
    rw [List.map_append]
    rfl
theorem Good.put {ts : Row} {n : Str} {m : Int} (g : Good ts) (hn : NameV (.str n)) (hm : 0 ≤ m) (hz : ts.length < 63) : Good (putR ts n m) := by
  unfold putR
  by_cases h : (ts.any fun t => decide (t.1 = n)) = true
  · rw [if_pos h]
    have k : (ts.map fun t => if t.1 = n then (t.1, m) else t).map (·.1) = ts.map (·.1) := by
      rw [List.map_map]
      refine List.map_congr_left fun t _ => ?_
      show (if t.1 = n then (t.1, m) else t).1 = t.1
      split <;> rfl
    refine ⟨by rw [k]; exact g.nod, fun y hy => ?_, fun y hy => ?_, by rw [List.length_map]; exact g.few⟩
    · obtain ⟨t, ht, rfl⟩ := List.mem_map.mp hy
      by_cases e : t.1 = n
      · rw [if_pos e]
        exact g.nm t ht
      · rw [if_neg e]
        exact g.nm t ht
    · obtain ⟨t, ht, rfl⟩ := List.mem_map.mp hy
      by_cases e : t.1 = n
      · rw [if_pos e]
        exact hm
      · rw [if_neg e]
        exact g.am t ht
  · rw [if_neg h]
    have no : n ∉ ts.map (·.1) := fun z => by
      obtain ⟨t, ht, e⟩ := List.mem_map.mp z
      exact h (List.any_eq_true.mpr ⟨t, ht, decide_eq_true e⟩)
    refine ⟨?_, fun y hy => ?_, fun y hy => ?_, by rw [List.length_append]; show ts.length + 1 < 64; omega⟩
    · rw [List.map_append, List.nodup_append]
      refine ⟨g.nod, by simp, fun a ha b hb => ?_⟩
      obtain rfl : b = n := by simpa using hb
      intro e
      exact no (e ▸ ha)
    · rcases List.mem_append.mp hy with hy | hy
      · exact g.nm y hy
      · rw [List.mem_singleton.mp hy]
        exact hn
    · rcases List.mem_append.mp hy with hy | hy
      · exact g.am y hy
      · rw [List.mem_singleton.mp hy]
        exact hm
def spLen (C : Addr) : Sp := fun vs H Q _ => ∃ a ts, vs = [.ref a] ∧ SideAt C H a ts ∧ Q (.int ts.length) H
/-- x in side, x no object -/
def spHas (C : Addr) : Sp := fun vs H Q _ => ∃ a ts x, vs = [.ref a, x] ∧ SideAt C H a ts ∧ flatV x = true ∧ Q (.bl (inV x (ts.map fun t => V.str t.1))) H
/-- side[x] -/
def spItem (K : PySem.W.Frag) (C : Addr) : Sp := fun vs H Q _ => ∃ a ts x, vs = [.ref a, x] ∧ SideAt C H a ts ∧
  ((∃ z, x = .str z ∧ z.length ≤ sizeLine ∧ Q (.int (if nameB z then amt ts z else 0)) H) ∨ (∃ t, TyX K H x (.type t) ∧ kitB t "str" = some false ∧ Q (.int 0) H))
def spWith (C : Addr) : Sp := fun vs H Q _ => ∃ a ts n m, vs = [.ref a, .str n, .int m] ∧ SideAt C H a ts ∧ Good ts ∧ NameV (.str n) ∧ 0 ≤ m ∧ ts.length < 63 ∧ ∀ b H', Ex H H' → SideAt C H' b (told (putR ts n m)) → Q (.ref b) H'
theorem scLen : FnScope ["self"] ["self"] (defScope sLen) := ⟨rfl, rfl, rfl, by decide +kernel, rfl, by decide +kernel, by decide +kernel⟩
theorem scHas : FnScope ["self", "x"] ["self", "x"] (defScope sHas) := ⟨rfl, rfl, rfl, by decide +kernel, rfl, by decide +kernel, by decide +kernel⟩
theorem scItem : FnScope ["self", "at"] ["self", "at"] (defScope sItem) := ⟨rfl, rfl, rfl, by decide +kernel, rfl, by decide +kernel, by decide +kernel⟩
theorem scWith : FnScope ["self", "name", "amount"] ["self", "name", "amount"] (defScope sWith) := ⟨rfl, rfl, rfl, by decide +kernel, rfl, by decide +kernel, by decide +kernel⟩
section
variable {P : Program} {w : World} {K : PySem.W.Frag} {mg : Str → Option Value} {base : Heap} {C f fN : Addr} {fd fdN : FuncData}
theorem ok_len (F : Fun K "__len__" "Side.__len__" sLen f fd) (S : SideC K C) (T : Blt mg) : FnOk P w K mg base CX0 1 f fd ["self"] (spLen C) := by
  refine F.ok scLen (fun vs H Q E h => ?_) (fun cdv A outer s H vs Q E hr h => ?_)
  · obtain ⟨a, ts, rfl, _⟩ := h
    rfl
  · obtain ⟨a, ts, rfl, ⟨dx, n, d, r, rows, h1, h2, h3, h4, h5⟩, q⟩ := h
    refine ⟨_, pss_one (ps_ret (pe_callB call_len_seq (by rfl) T.len PySem.boot_len (pa_cons (pe_fld (pv 0) rfl) pa_nil))), ?_⟩
    refine ⟨_, rfl, a, C, dx, _, _, rfl, h1, S.cl, S.nN, rfl, n, _, rfl, .inr (SqT.of h2), ?_⟩
    rw [List.length_map]
    exact q
theorem ok_has (F : Fun K "__contains__" "Side.__contains__" sHas f fd) (S : SideC K C) : FnOk P w K mg base CX0 1 f fd ["self", "x"] (spHas C) := by
  refine F.ok scHas (fun vs H Q E h => ?_) (fun cdv A outer s H vs Q E hr h => ?_)
  · obtain ⟨a, ts, x, rfl, _⟩ := h
    rfl
  · obtain ⟨a, ts, x, rfl, ⟨dx, n, d, r, rows, h1, h2, h3, h4, h5⟩, fx, q⟩ := h
    refine ⟨_, pss_one (ps_ret (pe_cmpR op_in_seq (pv 1) (pe_fld (pv 0) rfl) (by rfl))), ?_⟩
    refine ⟨_, rfl, _, rfl, a, C, dx, _, _, rfl, h1, S.cl, S.nN, rfl, n, _, rfl, .inr (SqT.of h2), fx, ?_, q⟩
    rw [List.all_map]
    exact List.all_eq_true.mpr fun _ _ => rfl
theorem ok_item (F : Fun K "__getitem__" "Side.__getitem__" sItem f fd) (S : SideC K C) (G : FnOk P w K mg base CX0 1 fN fdN ["value"] (spName K)) (b : Binds K fdN ["value"] []) (gN : mg "is_name" = some (.ref fN)) (kN : PySem.W.keepIn K (.ref fN) = true) :
    FnOk P w K mg base CX0 2 f fd ["self", "at"] (spItem K C) := by
  refine F.ok scItem (fun vs H Q E h => ?_) (fun cdv A outer s H vs Q E hr h => ?_)
  · obtain ⟨a, ts, x, rfl, _⟩ := h
    rfl
  · obtain ⟨a, ts, x, rfl, ⟨dx, n, d, r, rows, h1, h2, h3, h4, h5⟩, q⟩ := h
    refine ⟨_, pss_cons (ps_if (pt_not (pt_val (pe_call G hr (by rfl) gN kN b .nil pass0 (pa_cons (pv 1) pa_nil)))) (pss_one (ps_ret pe_int)) pss_nil)
      (pss_one (ps_ret (pe_dget2 (hu_of hr) (pe_fld (pv 0) rfl) (pv 1) pe_int ⟨rfl, rfl, rfl, rfl⟩))), ?_⟩
    rcases q with ⟨z, rfl, hz, q⟩ | ⟨t, ty, e, q⟩
    · refine ⟨_, rfl, _, rfl, .inl ⟨z, rfl, hz, _, rfl, ?_⟩⟩
      cases hb : nameB z with
      | false =>
        rw [hb] at q
        exact q
      | true =>
        rw [hb] at q
        refine ⟨_, rfl, a, C, dx, _, _, rfl, h1, S.cl, S.nA, rfl, d, rfl, .inl ⟨_, .inl h3⟩, _, rfl, _, DGet.k (k := Sum.inr z) h3, ?_⟩
        rw [valV_ents]
        unfold amt at q
        cases hl : ts.lookup z with
        | none =>
          rw [hl] at q
          exact q
        | some m =>
          rw [hl] at q
          exact q
    · exact ⟨_, rfl, _, rfl, .inr ⟨t, ty, e, _, rfl, q⟩⟩
end
end Fk

set_option Elab.async false
set_option linter.all false
set_option maxRecDepth 100000
set_option maxHeartbeats 4000000
/-! check_filling. -/
namespace Fi
open PySem PySem.Spec PyProof.Rows L2 EvP Cm Fk DtE Tb
/-- amounts of pairs that a Filling takes -/
structure Amts (r : TRow) : Prop where
  nod : (r.map (·.1)).Nodup
  key : ∀ t ∈ r, PairK t.1
  nn : ∀ t ∈ r, 0 ≤ t.2
  few : r.length ≤ 60
section
variable {K : PySem.W.Frag} {σ : L2.St} {H : Hp} {tb u : TS} {D : Ends} {m i : Nat} {d : Addr} {kvs : List (List Key × V)}
theorem back_of {H' : Hp} {od : Obj} {o : HO} (h : H d = some o) (e : Ex (upd H d (.frz od o)) H') : Ex H (upd H' d o) := fun b o' hb => by
  by_cases c : b = d
  · rw [c, upd_same, ← h, ← c]
    exact hb
  · rw [upd_ne c]
    exact e _ _ (by rw [upd_ne c]; exact hb)
/-- for k in d: .. -/
theorem st_forKT1 (hd : σ[m]? = some (some (.ref d))) (h : H d = some (.dT kvs)) (h0 : ∃ z, σ = σ.set i z)
    (turn : ∀ k v q H1, (k, v) ∈ kvs → H1 q = some (.tup (k.map kV)) → ∀ D' : Ends, (∀ H2, Ex H1 H2 → D'.nx (σ.set i (some (.ref q))) H2) → tb D' (σ.set i (some (.ref q))) H1) (k : ∀ y H1, Ex H H1 → D.nx (σ.set i y) H1) :
    tLock (tFor (iKeys (tVar m)) (gName i) tb) D σ H := by
  refine ⟨d, .dT kvs, h, True.intro, fun od => ?_⟩
  have hf : upd H d (.frz od (.dT kvs)) d = some (.frz od (.dT kvs)) := upd_same
  have back : ∀ H', Ex (upd H d (.frz od (.dT kvs))) H' → Ex H (upd H' d (.dT kvs)) := fun H' e => back_of h e
  generalize upd H d (.frz od (.dT kvs)) = Hf at hf back ⊢
  refine ⟨_, hd, d, od, rfl, .inr ⟨kvs, hf, for_it walk_keysT (fun n o H' => Ex Hf H' ∧ ∃ y, o = σ.set i y) ⟨Ex.refl Hf, h0⟩ (fun n o H' _ q => q.1 _ _ hf) (fun n x o H' H2 hn q y => ?_) (fun o H' q => ?_)⟩⟩
  · obtain ⟨e, z, rfl⟩ := q
    obtain ⟨rfl, ky, v, q, hk, rfl, hq⟩ := y
    show tb _ ((σ.set i z).set i (some (.ref q))) H2
    rw [List.set_set]
    exact turn ky v q H2 (List.mem_of_getElem? hk) hq _ fun H3 e3 => ⟨e.trans e3, _, rfl⟩
  · obtain ⟨e, z, rfl⟩ := q
    exact ⟨e _ _ hf, k z _ (back _ e)⟩
/-- for v in d.values(): .. -/
theorem st_forVT1 (hd : σ[m]? = some (some (.ref d))) (h : H d = some (.dT kvs)) (h0 : ∃ z, σ = σ.set i z)
    (turn : ∀ k v H1, (k, v) ∈ kvs → ∀ D' : Ends, (∀ H2, Ex H1 H2 → D'.nx (σ.set i (some v)) H2) → tb D' (σ.set i (some v)) H1) (k : ∀ y H1, Ex H H1 → D.nx (σ.set i y) H1) :
    tLock (tFor (iValsT (tVar m)) (gName i) tb) D σ H := by
  refine ⟨d, .dT kvs, h, True.intro, fun od => ?_⟩
  have hf : upd H d (.frz od (.dT kvs)) d = some (.frz od (.dT kvs)) := upd_same
  have back : ∀ H', Ex (upd H d (.frz od (.dT kvs))) H' → Ex H (upd H' d (.dT kvs)) := fun H' e => back_of h e
  generalize upd H d (.frz od (.dT kvs)) = Hf at hf back ⊢
  refine ⟨_, hd, d, od, kvs, rfl, hf, for_it walk_valsT (fun n o H' => Ex Hf H' ∧ ∃ y, o = σ.set i y) ⟨Ex.refl Hf, h0⟩ (fun n o H' _ q => q.1 _ _ hf) (fun n x o H' H2 hn q y => ?_) (fun o H' q => ?_)⟩
  · obtain ⟨e, z, rfl⟩ := q
    obtain ⟨rfl, ky, hk⟩ := y
    show tb _ ((σ.set i z).set i (some x)) H2
    rw [List.set_set]
    exact turn ky x H2 (List.mem_of_getElem? hk) _ fun H3 e3 => ⟨e.trans e3, _, rfl⟩
  · obtain ⟨e, z, rfl⟩ := q
    exact ⟨e _ _ hf, k z _ (back _ e)⟩
theorem st_forKT (hd : σ[m]? = some (some (.ref d))) (h : H d = some (.dT kvs)) (h0 : ∃ z, σ = σ.set i z)
    (turn : ∀ k v q H1, (k, v) ∈ kvs → H1 q = some (.tup (k.map kV)) → ∀ D' : Ends, (∀ H2, Ex H1 H2 → D'.nx (σ.set i (some (.ref q))) H2) → tb D' (σ.set i (some (.ref q))) H1) (k : ∀ y H1, Ex H H1 → u D (σ.set i y) H1) :
    tSeq (tLock (tFor (iKeys (tVar m)) (gName i) tb)) u D σ H := st_forKT1 hd h h0 turn k
end
abbrev sChk : Stmt := top 34
abbrev NF : List Str := ["amounts", "pair", "amount"]
theorem scChk : FnScope NF ["amounts"] (defScope sChk) := ⟨rfl, rfl, rfl, by decide +kernel, rfl, by decide +kernel, by decide +kernel⟩
section
variable {P : Program} {w : World} {K : PySem.W.Frag} {mg : Str → Option Value} {base : Heap} {f fP fA : Addr} {fd fdP fdA : FuncData}
def spChk : Sp := fun vs H Q _ => ∃ (d : Addr) (r : TRow), vs = [.ref d] ∧ H d = some (.dT (tents r)) ∧ Amts r ∧ ∀ H', Ex H H' → Q .non H'
theorem pair_tup {k : List Key} (h : PairK k) : ∃ a x, k.map kV = [V.str a, .str x] ∧ NameV (.str a) ∧ NameV (.str x) := by
  obtain ⟨a, x, rfl, ha, hx⟩ := h
  exact ⟨a, x, rfl, ha, hx⟩
theorem ok_chk (F : Fun K "check_filling" "check_filling" sChk f fd) (T : Blt mg) (hD : mg "dict" = none)
    (GP : FnOk P w K mg base CX0 2 fP fdP ["value"] (spPair K)) (bP : Binds K fdP ["value"] []) (gP : mg "is_pair" = some (.ref fP)) (kP : PySem.W.keepIn K (.ref fP) = true)
    (GA : FnOk P w K mg base CX0 2 fA fdA ["value"] (spAmount K)) (bA : Binds K fdA ["value"] []) (gA : mg "is_amount" = some (.ref fA)) (kA : PySem.W.keepIn K (.ref fA) = true) :
    FnOk P w K mg base CX0 3 f fd ["amounts"] spChk := by
  have nd := scChk.nd
  refine F.ok scChk (fun vs H Q E h => ?_) (fun cdv A outer s H vs Q E hr h => ?_)
  · obtain ⟨d, r, rfl, _⟩ := h
    rfl
  · obtain ⟨d, r, rfl, hd, ok, q⟩ := h
    refine ⟨_, pss_cons (ps_if (pt_not (pt_val (pe_callB call_isi (by rfl) T.isi (by decide +kernel) (pa_cons (pv 0) (pa_cons (pe_bltn (v := .ty "dict") (by rfl) hD (by decide +kernel) rfl) pa_nil))))) (pss_one ps_dead) pss_nil)
      (pss_cons (ps_lock (ps_for PassesOwn.never rfl (pi_keys (pv 0)) (pg_name (i := 1) nd rfl (Or.inl rfl))
        (pss_one (ps_if (pt_not (pt_val (pe_call GP hr (by rfl) gP kP bP .nil pass0 (pa_cons (pv 1) pa_nil)))) (pss_one ps_dead) pss_nil))))
      (pss_one (ps_lock (ps_for PassesOwn.never rfl (pi_valuesT (pv 0)) (pg_name (i := 2) nd rfl (Or.inl rfl))
        (pss_one (ps_if (pt_not (pt_val (pe_call GA hr (by rfl) gA kA bA .nil pass0 (pa_cons (pv 2) pa_nil)))) (pss_one ps_dead) pss_nil)))))), ?_⟩
    refine ⟨_, rfl, _, _, _, _, true, rfl, .ty _, .base (.dT hd), kit_ty (by decide +kernel), _, rfl, ?_⟩
    refine st_forKT (σ := [some (.ref d), none, none]) (m := 0) (i := 1) rfl hd ⟨none, rfl⟩ (fun k v q1 H1 hk h1 D' kk => ?_) fun y H1 e1 => ?_
    · obtain ⟨t, ht, et⟩ := List.mem_map.mp hk
      cases et
      obtain ⟨a, x, ek, ha, hx⟩ := pair_tup (ok.key t ht)
      refine ⟨_, rfl, q1, a, x, rfl, h1.trans (by rw [ek]), ha, hx, _, rfl, ?_⟩
      exact kk _ (Ex.refl _)
    · refine st_forVT1 (σ := [some (.ref d), y, none]) (m := 0) (i := 2) rfl (e1 _ _ hd) ⟨none, rfl⟩ (fun k v H2 hk D' kk => ?_) fun z H2 e2 => q H2 (e1.trans e2)
      obtain ⟨t, ht, et⟩ := List.mem_map.mp hk
      cases et
      refine ⟨_, rfl, V.int t.2, rfl, .inl ⟨t.2, rfl, ?_⟩⟩
      rw [decide_eq_true (ok.nn t ht)]
      refine ⟨_, rfl, ?_⟩
      exact kk _ (Ex.refl _)
end
end Fi

set_option Elab.async false
set_option linter.all false
set_option maxRecDepth 100000
set_option maxHeartbeats 4000000
/-! Side.with_amount. -/
namespace Fk
open PySem PySem.Spec PyProof.Rows L2 EvP Cm
/-- a def that keeps a promise, by position alone -/
theorem FnOk.toR {P : Program} {w : World} {K : PySem.W.Frag} {mg : Str → Option Value} {base : Heap} {CX : CXT} {k : Nat} {f : Addr} {fd : FuncData} {ps : List Str} {sp : Sp} (F : FnOk P w K mg base CX k f fd ps sp) (b : Binds K fd ps []) : FnR P w K mg base CX k f sp := by
  intro A outer s H us vs Q E hr e0 r h
  have n : (us ++ []).length = ps.length := by rw [List.append_nil, ← r.length]; exact F.len _ _ _ _ h
  exact F.run A outer s H ⟨us, []⟩ (us ++ []) vs Q E hr e0 (b s us (e0.mod.kin.keeps fun b o e => (e0.bs b o e).1) n) (by rw [List.append_nil]; exact r) h
end Fk

set_option Elab.async false
set_option linter.all false
set_option maxRecDepth 100000
set_option maxHeartbeats 4000000
/-! sums_by. -/
namespace Fi
open PySem PySem.Spec PyProof.Rows L2 EvP Cm Fk DtE Tb
/-- the name at an end of a pair -/
def nmK (j : Nat) (k : List Key) : Str := match k[j]? with
  | some (.inr s) => s
  | _ => ⟨#[]⟩
theorem nmK_0 (a x : Str) : nmK 0 (key2 a x) = a := rfl
theorem nmK_1 (a x : Str) : nmK 1 (key2 a x) = x := rfl
theorem nmK_ok {j : Nat} (hj : j < 2) {k : List Key} (h : PairK k) : (k.map kV)[j]? = some (V.str (nmK j k)) ∧ NameV (.str (nmK j k)) := by
  obtain ⟨a, x, rfl, ha, hx⟩ := h
  rcases (show j = 0 ∨ j = 1 by omega) with rfl | rfl
  · exact ⟨rfl, ha⟩
  · exact ⟨rfl, hx⟩
/-- one more amount of a name -/
def plusR (j : Nat) (acc : Fk.Row) (t : List Key × Int) : Fk.Row := putR acc (nmK j t.1) (amt acc (nmK j t.1) + t.2)
/-- the sums at an end -/
def sumsR (j : Nat) (r : TRow) : Fk.Row := r.foldl (plusR j) []
theorem put_len (ts : Fk.Row) (n : Str) (m : Int) : (putR ts n m).length ≤ ts.length + 1 := by
  unfold putR
  split
  · rw [List.length_map]; omega
  · rw [List.length_append]; exact Nat.le_refl _
theorem amt_nn {ts : Fk.Row} (g : Good ts) (n : Str) : 0 ≤ amt ts n := by
  unfold amt
  cases h : ts.lookup n with
  | none => exact Int.le_refl 0
  | some v =>
    have mem : ∀ (l : Fk.Row), l.lookup n = some v → (n, v) ∈ l := by
      intro l
      induction l with
      | nil => intro z; cases z
      | cons t l ih =>
        obtain ⟨a, b⟩ := t
        intro z
        rw [List.lookup_cons] at z
        cases c : n == a with
        | true =>
          rw [c] at z
          cases Option.some.inj z
          rw [eq_of_beq c]
          exact List.mem_cons_self
        | false =>
          rw [c] at z
          exact List.mem_cons_of_mem _ (ih z)
    exact g.am _ (mem ts h)
theorem sums_good {j : Nat} (hj : j < 2) {r : TRow} (h : Amts r) : ∀ n, n ≤ r.length → Good ((r.take n).foldl (plusR j) []) ∧ ((r.take n).foldl (plusR j) []).length ≤ n
  | 0, _ => by
    exact ⟨⟨.nil, (fun t ht => by cases ht), (fun t ht => by cases ht), (by show 0 < 64; decide)⟩, Nat.le_refl _⟩
  | n + 1, hn => by
    obtain ⟨g, l⟩ := sums_good hj h n (by omega)
    have e : r.take (n + 1) = r.take n ++ [r[n]] := by rw [List.take_succ_eq_append_getElem (by omega)]
    rw [e, List.foldl_append]
    have mem : r[n] ∈ r := List.getElem_mem _
    have few := h.few
    refine ⟨g.put (nmK_ok hj (h.key _ mem)).2 (by have := amt_nn g (nmK j r[n].1); have := h.nn _ mem; omega) (by omega), ?_⟩
    exact Nat.le_trans (put_len _ _ _) (by omega)
abbrev sSums : Stmt := top 35
abbrev NS : List Str := ["amounts", "end", "sums", "pair", "amount"]
theorem scSums : FnScope NS ["amounts", "end"] (defScope sSums) := ⟨rfl, rfl, rfl, by decide +kernel, rfl, by decide +kernel, by decide +kernel⟩
section
variable {P : Program} {w : World} {K : PySem.W.Frag} {mg : Str → Option Value} {base : Heap} {C f f4 pO : Addr} {mc : Value} {fd fd4 : FuncData}
def spSums (C : Addr) : Sp := fun vs H Q _ => ∃ (d : Addr) (j : Nat) (r : TRow), vs = [.ref d, .int j] ∧ j < 2 ∧ H d = some (.dT (tents r)) ∧ Amts r ∧ ∀ b H', Ex H H' → SideN C H H' b (told (sumsR j r)) → Q (.ref b) H'
theorem ok_sums (F : Fun K "sums_by" "sums_by" sSums f fd) (gS : mg "Side" = some (.ref C)) (kS : PySem.W.keepIn K (.ref C) = true)
    (r0 : ClX.CRead K C mc) (c : ClX.CMet K C mc "of" pO f4) (G4 : FnOk P w K mg base CX0 6 f4 fd4 ["cls", "amounts"] (spOf C)) (b4 : Binds K fd4 ["cls", "amounts"] []) :
    FnOk P w K mg base CX0 7 f fd ["amounts", "end"] (spSums C) := by
  have nd := scSums.nd
  refine F.ok scSums (fun vs H Q E h => ?_) (fun cdv A outer s H vs Q E hr h => ?_)
  · obtain ⟨d, j, r, rfl, _⟩ := h
    rfl
  · obtain ⟨d, j, r, rfl, hj, hd, ok, q⟩ := h
    have hu := hu_of hr
    refine ⟨_, pss_cons (ps_set (i := 2) nd rfl (Or.inl rfl) pe_dnewK)
      (pss_cons (ps_lock (ps_for PassesOwn.never rfl (pi_itemsT (pv 0)) (pg_tup rfl (pgs_cons (pg_name (i := 3) nd rfl (Or.inl rfl)) (pgs_cons (pg_name (i := 4) nd rfl (Or.inl rfl)) pgs_nil)))
        (pss_one (ps_dput hu (pv 2) (pe_ix ix_tup (pv 3) (pv 1) (fun _ _ => rfl)) (pe_op op_add (pe_dget2 hu (pv 2) (pe_ix ix_tup (pv 3) (pv 1) (fun _ _ => rfl)) pe_int ⟨rfl, rfl, rfl, rfl⟩) (pv 4)) rfl))))
      (pss_one (ps_ret (ClX.pe_cmeth (pe_glob (v := .ref C) (by rfl) gS rfl) r0 c (FnOk.toR G4 b4) hr pass0 (pa_cons (pv 2) pa_nil))))), ?_⟩
    intro c0 hc
    have cd : c0 ≠ d := (ne_of_none hd hc).symm
    refine ⟨d, .dT (tents r), (by rw [upd_ne cd.symm]; exact hd), True.intro, fun od => ?_⟩
    refine ⟨_, rfl, d, od, tents r, rfl, upd_same, for_it (walk_itemsT (kvs := tents r)) (fun n o H' => (∃ y z, o = [some (.ref d), some (.int j), some (.ref c0), y, z]) ∧ H' d = some (.frz od (.dT (tents r))) ∧ H' c0 = some (.dK (ents ((r.take n).foldl (plusR j) []))) ∧ ∀ b o', H b = some o' → b ≠ d → H' b = some o') ?_ (fun n o H' _ z => z.2.1) (fun n x o H' H2 hn z y => ?_) (fun o H' z => ?_)⟩
    · refine ⟨⟨none, none, rfl⟩, upd_same, (by rw [upd_ne cd, upd_same]; rfl), fun b o' hb ne => ?_⟩
      rw [upd_ne ne, upd_ne (ne_of_none hb hc)]
      exact hb
    · obtain ⟨⟨y1, z1, rfl⟩, h1, h2, h3⟩ := z
      obtain ⟨T, k, v, q1, hk, rfl, hq, hT, rfl⟩ := y
      have hn' : n < r.length := by
        have e : (tents r).length = r.length := by unfold tents; rw [List.length_map]
        omega
      unfold tents at hk
      rw [List.getElem?_map, List.getElem?_eq_getElem hn'] at hk
      have hk2 := Option.some.inj hk
      have ek : r[n].1 = k := (Prod.mk.inj hk2).1
      have ev : V.int r[n].2 = v := (Prod.mk.inj hk2).2
      subst ek ev
      have mem : r[n] ∈ r := List.getElem_mem _
      obtain ⟨n1, n2⟩ := nmK_ok hj (ok.key _ mem)
      obtain ⟨g, l⟩ := sums_good hj ok n (by omega)
      refine ⟨T, _, rfl, SqT.of upd_same, rfl, _, _, rfl, _, _, rfl, rfl, ?_⟩
      have hc2 : upd H' T (.tup [.ref q1, .int r[n].2]) c0 = some (.dK (ents ((r.take n).foldl (plusR j) []))) := by
        rw [upd_ne (ne_of_none h2 hT)]
        exact h2
      have hq2 : upd H' T (.tup [.ref q1, .int r[n].2]) q1 = some (.tup (r[n].1.map kV)) := by
        rw [upd_ne (ne_of_none hq hT)]
        exact hq
      refine ⟨_, rfl, c0, rfl, .inl ⟨_, .inl hc2⟩, ?_⟩
      refine ⟨_, rfl, _, rfl, q1, _, _, _, rfl, rfl, SqT.of hq2, atI_nat n1, ?_⟩
      refine ⟨_, DGet.k (k := Sum.inr (nmK j r[n].1)) hc2, ?_⟩
      refine ⟨_, rfl, amt ((r.take n).foldl (plusR j) []) (nmK j r[n].1), r[n].2, ?_, rfl, ?_⟩
      · rw [valV_ents]
        unfold amt
        cases ((r.take n).foldl (plusR j) []).lookup (nmK j r[n].1) <;> rfl
      · refine ⟨_, rfl, _, rfl, _, rfl, q1, _, _, _, rfl, rfl, SqT.of hq2, atI_nat n1, c0, _, rfl, DPut.k (k := Sum.inr (nmK j r[n].1)) hc2 (by unfold ents; rw [List.length_map, sizeLine_eq]; have := ok.few; omega), ⟨_, _, rfl⟩, ?_, ?_, fun b o' hb ne => ?_⟩
        · rw [upd_ne cd.symm, upd_ne (ne_of_none h1 hT)]
          exact h1
        · rw [upd_same, ← ents_put, List.take_succ_eq_append_getElem hn', List.foldl_append]
          rfl
        · rw [upd_ne (ne_of_none hb hc), upd_ne (ne_of_none (h3 b o' hb ne) hT)]
          exact h3 b o' hb ne
    · obtain ⟨⟨y1, z1, rfl⟩, h1, h2, h3⟩ := z
      have e : (tents r).length = r.length := by unfold tents; rw [List.length_map]
      rw [e, List.take_length] at h2
      have gl := sums_good hj ok r.length (Nat.le_refl _)
      rw [List.take_length] at gl
      have ex : Ex H (upd H' d (.dT (tents r))) := fun b o' hb => by
        by_cases z : b = d
        · rw [z, upd_same, ← hd, ← z]
          exact hb
        · rw [upd_ne z]
          exact h3 b o' hb z
      refine ⟨h1, ?_⟩
      refine ⟨rfl, _, rfl, c0, sumsR j r, rfl, (by rw [upd_ne cd]; exact h2), gl.1, fun b H3 e3 sb => q b H3 (ex.trans e3) (SideN.back ex sb)⟩
end
end Fi

set_option Elab.async false
set_option linter.all false
set_option maxRecDepth 100000
set_option maxHeartbeats 4000000
/-! What Filling.__init__ makes of the amounts, piece by piece. -/
namespace Fi
open PySem PySem.Spec PyProof.Rows L2 EvP Cm Fk DtE Tb
def amtT (r : TRow) (k : List Key) : Int := (lookT r k).getD 0
def posT (r : TRow) : TRow := r.filter fun t => decide (0 < t.2)
/-- the amounts that are told, in the order of their texts -/
def toldT (r : TRow) : TRow := (sortK ((posT r).map (·.1))).map fun k => (k, amtT r k)
theorem sortK_perm (ks : List (List Key)) : (sortK ks).Perm ks := List.mergeSort_perm ks _
theorem look_of {r : TRow} (nod : (r.map (·.1)).Nodup) {t : List Key × Int} (h : t ∈ r) : lookT r t.1 = some t.2 := by
  induction r with
  | nil => cases h
  | cons a r ih =>
    rw [List.map_cons, List.nodup_cons] at nod
    unfold lookT
    rw [List.find?_cons]
    rcases List.mem_cons.mp h with rfl | h
    · rw [decide_eq_true rfl]
      rfl
    · have ne : a.1 ≠ t.1 := fun z => nod.1 (List.mem_map.mpr ⟨t, h, z.symm⟩)
      rw [decide_eq_false ne]
      exact ih nod.2 h
theorem amt_told {r : TRow} (nod : (r.map (·.1)).Nodup) {k : List Key} (h : k ∈ (posT r).map (·.1)) : lookT r k = some (amtT r k) ∧ (k, amtT r k) ∈ r ∧ 0 < amtT r k := by
  obtain ⟨t, ht, rfl⟩ := List.mem_map.mp h
  have m := (List.mem_filter.mp ht)
  have l := look_of nod m.1
  have e : amtT r t.1 = t.2 := by
    unfold amtT
    rw [l]
    rfl
  rw [e]
  exact ⟨l, m.1, of_decide_eq_true m.2⟩
theorem told_key (r : TRow) : (toldT r).map (·.1) = sortK ((posT r).map (·.1)) := by
  unfold toldT
  rw [List.map_map]
  exact List.map_id _
theorem told_nod {r : TRow} (nod : (r.map (·.1)).Nodup) : ((toldT r).map (·.1)).Nodup := by
  rw [told_key, (sortK_perm _).nodup_iff]
  exact nod.sublist (List.filter_sublist.map _)
theorem told_len (r : TRow) : (toldT r).length ≤ r.length := by
  unfold toldT
  rw [List.length_map, (sortK_perm _).length_eq, List.length_map]
  exact List.length_filter_le _ _
theorem told_in {r : TRow} (nod : (r.map (·.1)).Nodup) {t : List Key × Int} (h : t ∈ toldT r) : t ∈ r ∧ 0 < t.2 ∧ lookT r t.1 = some t.2 := by
  unfold toldT at h
  obtain ⟨k, hk, rfl⟩ := List.mem_map.mp h
  obtain ⟨a, b, c⟩ := amt_told nod ((sortK_perm _).mem_iff.mp hk)
  exact ⟨b, c, a⟩
/-- a pair, as a tuple -/
abbrev isK (k : List Key) : PR := tupV (k.map kV)
theorem keys_upd {H : Hp} {x : Addr} {o o' : HO} (hx : H x = some o) (ho : ∀ ys, o ≠ .tup ys) : ∀ {ks : List (List Key)} {vs : List V}, All2 H (ks.map isK) vs → All2 (upd H x o') (ks.map isK) vs
  | [], _, .nil => .nil
  | k :: ks, _, .cons ⟨a, ev, ha⟩ r => .cons ⟨a, ev, by
    rw [upd_ne (fun z => by
      rw [z, hx] at ha
      exact ho _ (Option.some.inj ha))]
    exact ha⟩ (keys_upd hx ho r)
theorem keys_of {H : Hp} : ∀ {r : TRow} {vs : List V}, All2 H ((r.map (·.1)).map isK) vs → ∃ bs, vs = bs.map V.ref ∧ IsKeys H (tents r) bs
  | [], _, .nil => ⟨[], rfl, .nil⟩
  | t :: r, _, .cons ⟨a, ev, ha⟩ k => by
    obtain ⟨bs, e, i⟩ := keys_of k
    exact ⟨a :: bs, by rw [ev, e]; rfl, .cons ha i⟩
section
variable {K : PySem.W.Frag} {H : Hp} {x d : Addr} {r : TRow}
abbrev σI (x d : Addr) : L2.St := [some (.ref x), some (.ref d), none, none]
/-- [pair for pair, amount in amounts.items() if amount > 0] -/
theorem comp_pos (hd : H d = some (.dT (tents r))) (few : r.length ≤ 60) :
    Gives (tLockE (tLc (iItemsT (tVar 1)) (gTup K 2 (gCons (gName 2) (gCons (gName 3) gNil))) (tTest (tOp (rI0 fun i j => .bl (decide (j < i))) (tVar 3) (tC (.int 0)))) (tVar 2) [2, 3])) (σI x d) H
      (lst H (((posT r).map (·.1)).map isK)) := fun H1 e1 Q q => by
  have h1 := e1 _ _ hd
  refine ⟨d, _, h1, True.intro, fun od => ⟨_, rfl, d, od, tents r, rfl, upd_same, fun D hD => ?_⟩⟩
  have nd : d ≠ D := fun z => by
    rw [← z, upd_same] at hD
    cases hD
  have nD : H1 D = none := by rw [upd_ne nd.symm] at hD; exact hD
  have el : (tents r).length = r.length := by unfold tents; rw [List.length_map]
  refine lc_it walk_itemsT (fun j H' => ∃ acc, H' D = some (.lst acc) ∧ Ex (upd H1 d (.frz od (.dT (tents r)))) H' ∧ All2 H' (((posT (r.take j)).map (·.1)).map isK) acc) ⟨[], upd_same, Ex.new hD, .nil⟩ (fun j H' _ ⟨_, _, e, _⟩ => e _ _ upd_same) (fun j y H' H'' hj ⟨acc, a1, a2, a3⟩ w => ?_) (fun H' ⟨acc, a1, a2, a3⟩ => ?_)
  · obtain ⟨T, k, v, q1, hk, rfl, hq, hT, rfl⟩ := w
    have hj' : j < r.length := by omega
    unfold tents at hk
    rw [List.getElem?_map, List.getElem?_eq_getElem hj'] at hk
    have hk2 := Option.some.inj hk
    have ek : r[j].1 = k := (Prod.mk.inj hk2).1
    have ev : V.int r[j].2 = v := (Prod.mk.inj hk2).2
    subst ek ev
    have b1 : upd H' T (.tup [.ref q1, .int r[j].2]) D = some (.lst acc) := by
      rw [upd_ne (ne_of_none a1 hT)]
      exact a1
    have b2 : Ex (upd H1 d (.frz od (.dT (tents r)))) (upd H' T (.tup [.ref q1, .int r[j].2])) := a2.trans (Ex.new hT)
    have b3 := a3.ex (Ex.new (o := .tup [.ref q1, .int r[j].2]) hT)
    have b4 : upd H' T (.tup [.ref q1, .int r[j].2]) q1 = some (.tup (r[j].1.map kV)) := by
      rw [upd_ne (ne_of_none hq hT)]
      exact hq
    have b0 : upd H' T (.tup [.ref q1, .int r[j].2]) T = some (.tup [.ref q1, .int r[j].2]) := upd_same
    generalize upd H' T (.tup [.ref q1, .int r[j].2]) = G at b0 b1 b2 b3 b4 ⊢
    have tk : r.take (j + 1) = r.take j ++ [r[j]] := List.take_succ_eq_append_getElem hj'
    have la : acc.length ≤ 60 := by
      have e := a3.length
      rw [List.length_map, List.length_map] at e
      have := List.length_filter_le (fun t : List Key × Int => decide (0 < t.2)) (r.take j)
      have l2 : (r.take j).length ≤ r.length := by rw [List.length_take]; omega
      have e2 : (posT (r.take j)).length ≤ (r.take j).length := this
      omega
    refine ⟨T, _, rfl, SqT.of b0, rfl, _, _, rfl, _, _, rfl, rfl, rfl, ?_⟩
    refine ⟨_, rfl, r[j].2, 0, rfl, rfl, _, rfl, ?_⟩
    dsimp only
    by_cases c : 0 < r[j].2
    · rw [decide_eq_true c, if_pos rfl]
      refine ⟨_, rfl, acc, b1, by rw [sizeLine_eq]; omega, acc ++ [.ref q1], upd_same, fun b o hb => ?_, ?_⟩
      · rw [upd_ne (ne_of_none hb hD)]
        exact b2 _ _ hb
      · have e : ((posT (r.take (j + 1))).map (·.1)).map isK = ((posT (r.take j)).map (·.1)).map isK ++ [isK r[j].1] := by
          unfold posT
          rw [tk, List.filter_append, List.filter_cons, decide_eq_true c, List.map_append, List.map_append]
          rfl
        rw [e]
        refine all2_stays b1 (fun P hP => ?_) (all2_snoc b3 ⟨q1, rfl, b4⟩)
        rcases List.mem_append.mp hP with hP | hP
        · obtain ⟨k, _, rfl⟩ := List.mem_map.mp hP
          exact stays_tupV _
        · rw [List.mem_singleton.mp hP]
          exact stays_tupV _
    · rw [decide_eq_false c, if_neg Bool.false_ne_true]
      refine ⟨acc, b1, b2, ?_⟩
      have e : posT (r.take (j + 1)) = posT (r.take j) := by
        unfold posT
        rw [tk, List.filter_append, List.filter_cons, decide_eq_false c]
        simp
      rw [e]
      exact b3
  · rw [el, List.take_length] at a3
    have hf := a2 _ _ upd_same
    have ex : Ex H1 (upd H' d (.dT (tents r))) := back_of h1 a2
    refine ⟨hf, q _ _ ex ⟨D, acc, rfl, by rw [upd_ne nd.symm]; exact a1, e1.back nD, keys_upd hf (fun _ z => nomatch z) a3⟩⟩
end
end Fi

set_option Elab.async false
set_option linter.all false
set_option maxRecDepth 100000
set_option maxHeartbeats 1000000
/-! {k: v for .. in ..}, the keys tuples. -/
namespace Dc1
open PySem PySem.Spec PyProof.Rows L2
abbrev Ex1 (kx vx t0 i0 : Expr) (f0 : List Expr) (sc : Scope) (pos : Pos) : Expr := .DictComp kx vx [⟨t0, i0, f0, 0⟩] sc pos
/-- d[k] = v by a comprehension, k a tuple -/
theorem put_tup {X : Cx} {pins : List (Addr × Obj)} {σ : L2.St} {H : Hp} {s : Shared} {E : Value → Shared → Prop} {D b : Addr} {kvs : List (List Key × V)} {k : List Key} {v : V} {u r : Value} {Q : Unit → Shared → Prop} (hu : X.A.units + 1 < cLine) (I : Inv X pins σ H s) (hD : H D = some (.dT kvs)) (hz : kvs.length < sizeLine)
    (eb : H b = some (.tup (k.map kV))) (ry : RelV (.ref b) u) (rv : RelV v r) (h : ∀ s', Inv X pins σ (upd H D (.dT (putK kvs k v))) s' → Q () s') : wpAny (model X.prog X.w) X.A (dictSet D u r) Q E s := by
  cases ry
  obtain ⟨z, hd, xs, rel, dd⟩ := dt_of I.hok hD
  have l1 : xs.length ≤ sizeLine := by rw [← Paired.length rel]; exact z
  have l2 : (putK kvs k v).length ≤ sizeLine := by
    have := length_putK kvs k v
    omega
  refine wpAny_dictSet_heap (hsz := l1) ?_ (key_of I.hok eb) dd fun h' dd' hs => h _ ?_
  · show X.A.units < cLine
    omega
  · obtain ⟨q, es, ep, hq, h2, h3, h4, _, h5⟩ := dd'
    refine d_write I (by rw [hD]; exact True.intro) hs ⟨q, hq⟩ ⟨l2, hd, _, (rel.put k eb rv).keeps fun c ys ec => ?_, q, es, ep, hq, h2, h3, h4, h5⟩
    rw [upd_ne (ne_of ec hD (fun z => nomatch z))]
    exact ec
/-- {k: v for tg in iter if ..}, the keys tuples: D the new dict -/
def tDc1 (wi : TI) (g : TG) (tt : TT) (tk tv : TE) (vs : List Nat) : TE := fun σ H Q => wi σ H fun J H1 => ∀ D, H1 D = none → ∃ W : Nat → Nat → Hp → Prop, (∃ m, W 0 m (upd H1 D (.dT []))) ∧ ∀ i m H, W i m H →
  (J.stop i H ∧ Q (.ref D) H) ∨ (J.go i H ∧ ∃ Nx : Hp → Prop, (∀ H', Nx H' → ∃ m', m' < m ∧ W (i + 1) m' H') ∧ ∀ x H', J.yld i H x H' → g x (wipe σ vs) H' fun σ2 H2 => wipe σ2 vs = wipe σ vs ∧ tt σ2 H2 fun b H3 =>
    if b = true then tk σ2 H3 fun y H4 => tv σ2 H4 fun z H5 => ∃ (kvs : List (List Key × V)) (ks : List Key) (q : Addr), y = .ref q ∧ H5 q = some (.tup (ks.map kV)) ∧ H5 D = some (.dT kvs) ∧ kvs.length < sizeLine ∧ Nx (upd H5 D (.dT (putK kvs ks z))) else Nx H3)
abbrev InBlk (X : Cx) (sc : Scope) (T : Cx → Prop) : Prop := ∀ (s : Shared) (H : Hp) (C : Addr) (cl : List (Str × Addr)) (fp : List Addr), T (X.blk s H sc (compEnvC sc cl C X.env) fp)
section
variable {X : Cx}
theorem core1 {pins : List (Addr × Obj)} {s : Shared} {σ : L2.St} {H : Hp} {Q : VK} {kx vx tg iter : Expr} {f0 : List Expr} {sc : Scope} {own : List (Str × Nat)} {pos pos' : Pos} {wi : TI} {g : TG} {tt : TT} {tk tv : TE} {use : Option (Value → Sem Unit)} {Qf : Value → Shared → Prop}
    (hu : X.A.units + 1 < cLine) (hc : X.calm = true) (hN : X.N.Nodup) (I : Inv X pins σ H s) (hi : PI X tg iter wi) (ok : BlkOk X.N X.env.scope sc own)
    (hg : InBlk X sc fun B => PG B tg g) (ht : InBlk X sc fun B => PTs B f0 tt) (hk : InBlk X sc fun B => PE B kx tk) (he : InBlk X sc fun B => PE B vx tv) (hs : ∀ x, foldedSetIterable iter X.env x = pure x)
    (h : tDc1 wi g tt tk tv (own.map (·.2)) σ H Q)
    (hR : ∀ D C s' m H', Inv X pins σ H' s' → Q (.ref D) H' → s'.heap.Ns C m → FpOk X pins H' C → compPost (model X.prog X.w) X.A X.xe use Qf (.ref D) C (.ok .next) s') :
    wpAny (model X.prog X.w) X.A (comprehension (Ex1 kx vx tg iter f0 sc pos) sc X.env pos' newDict false (eval iter X.env) use) Qf X.xe s := by
  have caught : ∀ y ∈ sc.names, y.2 = .free → ∃ c, X.env.cells.lookup y.1 = some c := fun y hy e => (ok.free y hy e).elim (fun k => I.ok.has _ (.inl k)) fun k => I.ok.has _ (.inr k)
  refine wpAny_comprehension_free (use := use) rfl hs (closure_ok caught) ok.kind (fun y hy e => by rw [ok.uniq y hy, e]) (thn (hi.run pins s σ H _ I h) fun xv s1 hx => thn hx fun itv s2 h2 => ?_)
  obtain ⟨it, fp, tn, J, H2, rfl, I2, T, st2, f2, q⟩ := h2
  refine wpAny_newObj_type (newEnv_comp ?_)
  generalize hD : s2.heap.objs.size = D
  obtain ⟨W, ⟨m0, w0⟩, turn⟩ := q D (I2.hok.fresh (Nat.le_of_eq hD))
  generalize hs3 : ({ s2 with heap := s2.heap.push { cls := .type "dict", data := .dict #[] } } : Shared) = s3
  have h3 : s3.heap = s2.heap.push { cls := .type "dict", data := .dict #[] } := by rw [← hs3]
  have I3 : Inv X pins σ (upd H2 D (.dT [])) s3 := by
    rw [← hs3]
    refine I2.laid (t' := s2.toks) (fun b o e => Heap.get?_push_of_some _ e) (Nat.le_of_eq hD) ?_
    rw [← hD]
    exact dt_empty s2.heap I2.big
  have low : ∀ b ∈ fp, b < s2.heap.objs.size := fun b hb => let ⟨o, e, _⟩ := T.obj _ _ st2 b hb; Heap.lt_size e
  have f3 : ∀ b ∈ fp, FpOk X pins (upd H2 D (.dT [])) b ∧ b < s3.heap.objs.size := fun b hb =>
    ⟨⟨by rw [upd_ne (by rw [← hD]; exact Nat.ne_of_lt (low b hb))]; exact (f2 b hb).1, (f2 b hb).2⟩, by rw [h3, Heap.size_push]; exact Nat.lt_succ_of_lt (low b hb)⟩
  have st3 : tn 0 s3.heap := T.keep _ _ _ st2 fun b _ o e => by rw [h3]; exact Heap.get?_push_of_some _ e
  have I4 := block_start I3 ok hN f3
  generalize hcl : cellsFrom (s3.heap.objs.size + 1) sc.names (cloFrom X.env.cells sc.names []) = cl at I4
  have pg := hg s3 (upd H2 D (.dT [])) s3.heap.objs.size cl fp
  have pt := ht s3 (upd H2 D (.dT [])) s3.heap.objs.size cl fp
  have pk := hk s3 (upd H2 D (.dT [])) s3.heap.objs.size cl fp
  have pe := he s3 (upd H2 D (.dT [])) s3.heap.objs.size cl fp
  show codeAny _ _ (.compStart (Ex1 kx vx tg iter f0 sc pos) 0 (.ref it) (.ref D) (compEnvC sc cl s3.heap.objs.size X.env)) (compPost (model X.prog X.w) X.A X.xe use Qf (.ref D) s3.heap.objs.size) { s3 with heap := pushCells (s3.heap.push { cls := .type "dict", data := .dict #[] }) sc.names }
  have nfp : ∀ b ∈ fp, (upd H2 D (.dT [])) b = none := fun b hb => (f3 b hb).1.1
  generalize hce : compEnvC sc cl s3.heap.objs.size X.env = ce at I4 pg pt pk pe ⊢
  have cL : ce.locals = s3.heap.objs.size := by
    subst hce
    rfl
  generalize hH3 : upd H2 D (.dT []) = H3 at I3 I4 pg pt pk pe w0 nfp f3
  generalize hs4 : ({ s3 with heap := pushCells (s3.heap.push { cls := .type "dict", data := .dict #[] }) sc.names } : Shared) = s4 at I4 ⊢
  have st4 : tn 0 s4.heap := T.keep _ _ _ st3 fun b _ o e => by rw [← hs4]; exact pushCells_keeps _ _ _ _ (Heap.get?_push_of_some _ e)
  generalize hB : X.blk s3 H3 sc ce fp = B at I4 pg pt pk pe
  have stat : ∀ {pn : List (Addr × Obj)} {σ' : L2.St} {H' : Hp} {s' : Shared}, Inv B [] σ' H' s' → (∀ b ∈ fp, H' b = none) → ∀ b ∈ fp, FpOk B [] H' b := fun {pn σ' H' s'} I' hn b hb => by
    subst hB
    exact ⟨hn b hb, (I'.ok.exf b hb).1, I'.ok.exfs b hb, .inl hb, fun x c e => (I'.ok.exf b hb).2 x c e, fun p hp => absurd (show p ∈ ([] : List (Addr × Obj)) ++ [] from hp) (by simp)⟩
  have eB : B.prog = X.prog ∧ B.w = X.w ∧ B.K = X.K ∧ B.calm = true := by
    subst hB
    exact ⟨rfl, rfl, rfl, hc⟩
  have loop : codeAny (model X.prog X.w) X.A (.compLoop (Ex1 kx vx tg iter f0 sc pos) 0 (.ref it) (.ref D) ce) (compPost (model X.prog X.w) X.A X.xe use Qf (.ref D) s3.heap.objs.size) s4 := by
    subst hB
    refine compLoop_anyD (fun n s' => ∃ i H', Inv (X.blk s3 H3 sc ce fp) [] (wipe σ (own.map (·.2))) H' s' ∧ tn i s'.heap ∧ (∀ b ∈ fp, H' b = none) ∧ W i n H') ?_ m0 ⟨0, H3, I4, st4, nfp, w0⟩
    rintro n s5 ⟨i, H5, I5, st5, n5, w5⟩
    rcases turn i n H5 w5 with ⟨stop, qq⟩ | ⟨go, Nx, hNx, step⟩
    · refine thnF (T.done (X.blk s3 H3 sc ce fp) rfl rfl rfl hc i [] s5 _ H5 (fun _ _ => False) I5 (stat (pn := []) I5 n5) st5 stop) fun r s6 ⟨hr, I6⟩ => ?_
      subst hr
      obtain ⟨m, hn, _⟩ := I6.loc
      have hn : s6.heap.Ns ce.locals m := hn
      have nC : H5 ce.locals = none := I6.free
      rw [cL] at hn nC
      exact hR D s3.heap.objs.size s6 m H5 (I3.call' (ch := fp) I6.os I6.base I6.hok I6.bare fun b hb => ⟨(f3 b hb).1.2.2.2.1, (f3 b hb).1.2.1, (f3 b hb).1.2.2.2.2.1, (f3 b hb).1.2.2.2.2.2⟩) qq hn (I3.fpOk (Nat.le_refl _) nC)
    · refine thnF (T.item (X.blk s3 H3 sc ce fp) rfl rfl rfl hc i [] s5 _ H5 (fun _ _ => False) I5 (stat (pn := []) I5 n5) st5 go) fun r s6 ⟨u, hr, h6⟩ => ?_
      subst hr
      refine thnF h6 fun _ s7 ⟨x, H7, I7, r7, y7, st7, n7⟩ => ?_
      refine thnF (pg.run _ s7 _ H7 x u _ (I7.pinned (stat (pn := []) I7 n7) (T.obj _ _ st7)) r7 (step x H7 y7)) fun _ s8 ⟨σ8, H8, I8, hw8, q8⟩ => thnF (pt.run _ s8 σ8 H8 _ I8 q8) fun b s9 ⟨H9, I9, q9⟩ => ?_
      have fin : ∀ {σ9 : L2.St} {s' : Shared} {H' : Hp}, Inv (X.blk s3 H3 sc ce fp) ([] ++ pinsAt fp s7.heap) σ9 H' s' → (wipe σ (own.map (·.2))).length = σ9.length → (∀ (j : Nat) v, (wipe σ (own.map (·.2)))[j]? = some (some v) → σ9[j]? = some (some v)) → Nx H' →
          ∃ m, m < n ∧ ∃ i H', Inv (X.blk s3 H3 sc ce fp) [] (wipe σ (own.map (·.2))) H' s' ∧ tn i s'.heap ∧ (∀ b ∈ fp, H' b = none) ∧ W i m H' := fun {σ9 s' H'} I' hl hk nx => by
        obtain ⟨m', hm, w'⟩ := hNx H' nx
        have pin' : ∀ b ∈ fp, ∀ o, s7.heap.get? b = some o → s'.heap.get? b = some o ∧ H' b = none := fun b hb o e => have z := I'.pin (b, o) (List.mem_append_right _ (List.mem_append_right _ (mem_pinsAt hb e))); ⟨z.1, z.2.1⟩
        exact ⟨m', hm, i + 1, H', (I'.unpinned (pins := [])).weak hl hk, T.keep _ _ _ st7 fun b hb o e => (pin' b hb o e).1, fun b hb => let ⟨o, e, _⟩ := T.obj _ _ st7 b hb; (pin' b hb o e).2, w'⟩
      have l8 : (wipe σ (own.map (·.2))).length = σ8.length := by rw [← hw8, wipe_length]
      have k8 : ∀ (j : Nat) v, (wipe σ (own.map (·.2)))[j]? = some (some v) → σ8[j]? = some (some v) := fun j v e => (wipe_some (by rw [hw8]; exact e)).1
      cases b with
      | false => exact fin I9 l8 k8 (by simpa only [Bool.false_eq_true, if_false] using q9)
      | true =>
        rw [if_pos rfl] at q9
        refine thnF (pk.run _ s9 σ8 H9 _ I9 q9) fun z s17 ⟨yk, H17, I17, r17, q17⟩ => thnF (pe.run _ s17 σ8 H17 _ I17 q17) fun z2 s18 ⟨yv, H18, I18, r18, kvs, ks, qk, ek, hqk, hD18, hz18, nx⟩ => ?_
        subst ek
        exact put_tup (X := X.blk s3 H3 sc ce fp) hu I18 hD18 hz18 hqk r17 r18 fun s19 I19 => fin I19 l8 k8 nx
  exact codeAny_compStart_dict loop (T.self X.A 0 _ _ _ st4 loop)
theorem pe_dc1 {kx vx tg iter : Expr} {f0 : List Expr} {sc : Scope} {own : List (Str × Nat)} {pos : Pos} {wi : TI} {g : TG} {tt : TT} {tk tv : TE} (hu : X.A.units + 1 < cLine) (hc : X.calm = true) (hN : X.N.Nodup) (hi : PI X tg iter wi) (ok : BlkOk X.N X.env.scope sc own)
    (hg : InBlk X sc fun B => PG B tg g) (ht : InBlk X sc fun B => PTs B f0 tt) (hk : InBlk X sc fun B => PE B kx tk) (he : InBlk X sc fun B => PE B vx tv) (hs : ∀ x, foldedSetIterable iter X.env x = pure x := by intro _; rfl) : PE X (Ex1 kx vx tg iter f0 sc pos) (tDc1 wi g tt tk tv (own.map (·.2))) := by
  refine ⟨fun pins s σ H Q I h => ?_⟩
  rw [arm_eval_DictComp]
  refine core1 hu hc hN I hi ok hg ht hk he hs h fun D C s' m H' I' q hn f => ⟨m, hn, fun h2 sb => ?_⟩
  obtain ⟨a0, a1, a2, a3, a4, a5⟩ := f
  exact ⟨.ref D, H', I'.turned (t' := s'.toks) (fun b o hb e => (sb.2 b hb).trans e) a0 a1 a3 a4 a5, rfl, q⟩
end
end Dc1

set_option Elab.async false
set_option linter.all false
set_option maxRecDepth 100000
set_option maxHeartbeats 4000000
/-! What Filling.__init__ makes of the amounts, piece by piece. -/
namespace Fi
open PySem PySem.Spec PyProof.Rows L2 EvP Cm Fk DtE Tb
/-- a key, read from a tuple's things -/
def vK : V → Key
  | .str x => .inr x
  | .int i => .inl i
  | _ => .inl 0
theorem vK_kV (k : List Key) : (k.map kV).map vK = k := by
  rw [List.map_map]
  conv => rhs; rw [← List.map_id k]
  exact List.map_congr_left fun x _ => by cases x <;> rfl
/-- the amount of the pair at an address -/
def amtI (H : Hp) (r : TRow) : V → Int
  | .ref b => match H b with
    | some (.tup ys) => amtT r (ys.map vK)
    | _ => 0
  | _ => 0
theorem amtI_of {H : Hp} {r : TRow} {b : Addr} {k : List Key} (h : H b = some (.tup (k.map kV))) : amtI H r (.ref b) = amtT r k := by
  show (match H b with
    | some (.tup ys) => amtT r (ys.map vK)
    | _ => 0) = _
  rw [h]
  show amtT r ((k.map kV).map vK) = _
  rw [vK_kV]
theorem keys_mem {H : Hp} : ∀ {ks : List (List Key)} {vs : List V}, All2 H (ks.map isK) vs → ∀ v ∈ vs, ∃ (b : Addr) (k : List Key), k ∈ ks ∧ v = .ref b ∧ H b = some (.tup (k.map kV))
  | [], _, .nil, v, hv => by cases hv
  | k :: ks, _, .cons ⟨a, ev, ha⟩ r, v, hv => by
    rcases List.mem_cons.mp hv with rfl | hv
    · exact ⟨a, k, .head _, ev, ha⟩
    · obtain ⟨b, k', m, e, h⟩ := keys_mem r v hv
      exact ⟨b, k', .tail _ m, e, h⟩
theorem keys_amt {H : Hp} {r : TRow} : ∀ {ks : List (List Key)} {vs : List V}, All2 H (ks.map isK) vs → vs.map (amtI H r) = ks.map (amtT r)
  | [], _, .nil => rfl
  | k :: ks, _, .cons ⟨a, ev, ha⟩ t => by
    subst ev
    rw [List.map_cons, List.map_cons, amtI_of ha, keys_amt t]
theorem keys_get {H : Hp} : ∀ {ks : List (List Key)} {vs : List V} {j : Nat} {v : V}, All2 H (ks.map isK) vs → vs[j]? = some v → ∃ (b : Addr) (k : List Key), ks[j]? = some k ∧ v = .ref b ∧ H b = some (.tup (k.map kV))
  | [], _, j, v, .nil, h => by cases h
  | k :: ks, _, 0, v, .cons ⟨a, ev, ha⟩ r, h => by
    cases Option.some.inj h
    exact ⟨a, k, rfl, ev, ha⟩
  | k :: ks, _, j + 1, v, .cons ⟨a, ev, ha⟩ r, h => by
    obtain ⟨b, k', m, e, hb⟩ := keys_get (j := j) r h
    exact ⟨b, k', m, e, hb⟩
theorem keys_len {H : Hp} {ks : List (List Key)} {vs : List V} (h : All2 H (ks.map isK) vs) : vs.length = ks.length := by
  have e := h.length
  rw [List.length_map] at e
  exact e
theorem valV_none {r : TRow} {k : List Key} {n : Int} (h : ((r ++ [(k, n)]).map (·.1)).Nodup) : valV (tents r) k = none := by
  rw [valV_tents]
  have z : lookT r k = none := by
    unfold lookT
    rw [Option.map_eq_none_iff, List.find?_eq_none]
    intro t ht e
    rw [List.map_append, List.nodup_append] at h
    exact h.2.2 t.1 (List.mem_map.mpr ⟨t, ht, rfl⟩) k (by simp) (of_decide_eq_true e)
  rw [z]
  rfl
theorem tents_put {r : TRow} {k : List Key} {n : Int} (h : ((r ++ [(k, n)]).map (·.1)).Nodup) : putK (tents r) k (.int n) = tents (r ++ [(k, n)]) := by
  rw [putK_new _ (valV_none h)]
  unfold tents
  rw [List.map_append]
  rfl
section
variable {K : PySem.W.Frag} {H : Hp} {x d : Addr} {r : TRow} {σ : L2.St}
/-- ascending(list of pairs) -/
theorem g_asc {te : TE} {H0 : Hp} (h : EvP.Gives te σ H (lst H0 (((posT r).map (·.1)).map isK))) (p : ∀ t ∈ r, PairK t.1) : EvP.Gives (tCall (spAsc K) [] E0 (tCons te tNil)) σ H (tup (((toldT r).map (·.1)).map isK)) := fun H1 e Q q =>
  h H1 e _ fun v H2 e2 ⟨a, ws, ev, ha, _, hw⟩ => by
    subst ev
    obtain ⟨bs, rfl, hi⟩ := keys_of hw
    obtain ⟨k1, k2⟩ := asc_pairs hi fun t ht => p t (List.mem_filter.mp ht).1
    refine ⟨a, _, keyH H2, rfl, SqL.of ha, k1, fun p2 H3 e3 np h3 => q _ H3 (e2.trans e3) ⟨p2, _, rfl, h3, ?_⟩⟩
    rw [told_key]
    exact k2.ex e3
/-- amounts[pair] -/
theorem g_look {prs : List V} {ks : List (List Key)} {o2 : Option V} (hd : H d = some (.dT (tents r))) (hk : ∀ k ∈ ks, lookT r k = some (amtT r k)) (h : All2 H (ks.map isK) prs) {v : V} (hv : v ∈ prs) :
    EvP.Gives (tDGet (tVar 1) (tVar 2)) [some (.ref x), some (.ref d), some v, o2] H (is (.int (amtI H r v))) := fun H1 e Q q => by
  obtain ⟨b, k, mk, rfl, hb⟩ := keys_mem h v hv
  refine ⟨_, rfl, _, rfl, d, .int (amtT r k), rfl, ?_, q _ _ (Ex.refl _) (by rw [amtI_of hb]; rfl)⟩
  have z := DGet.t (k := k) (e _ _ hd) (e _ _ hb)
  rw [valV_tents, hk k mk] at z
  exact z
/-- {pair: .. for pair in pairs} -/
theorem comp_dT {tl tv : TE} {i : Nat} {vs : List Nat} {prs : List V} {ks : List (List Key)} (g : List Key → Int) (h : Gives tl σ H (tupV prs)) (hp : All2 H (ks.map isK) prs) (hz : ks.length ≤ 1000) (nod : ks.Nodup) (hi : i < σ.length) (wp : ∀ x, wipe ((wipe σ vs).set i (some x)) vs = wipe σ vs)
    (he : ∀ b k, k ∈ ks → V.ref b ∈ prs → H b = some (.tup (k.map kV)) → Gives tv ((wipe σ vs).set i (some (.ref b))) H (is (.int (g k)))) :
    Gives (Dc1.tDc1 (iTup K tl) (gName i) tYes (tVar i) tv vs) σ H ⟨fun v H' => ∃ a, v = .ref a ∧ H' a = some (.dT (tents (ks.map fun k => (k, g k)))), fun _ _ _ e ⟨a, h1, h2⟩ => ⟨a, h1, e _ _ h2⟩⟩ := fun H1 e1 Q q => by
  refine h H1 e1 _ fun v H2 e2 ⟨a, ev, ha⟩ => ⟨a, ev, ⟨_, SqT.of ha⟩, fun D hD => ?_⟩
  have w := walk_tup (K := K) (a := a) (xs := prs)
  have le := keys_len hp
  refine ⟨fun j m H' => m = prs.length - j ∧ j ≤ prs.length ∧ H' D = some (.dT (tents ((ks.take j).map fun k => (k, g k)))) ∧ Ex H2 H', ⟨prs.length, by simp, Nat.zero_le _, by rw [List.take_zero]; exact upd_same, Ex.new hD⟩, ?_⟩
  rintro j m H' ⟨rfl, hj, a1, a2⟩
  have qt : SqT K H' a prs := SqT.of (a2 _ _ ha)
  by_cases hlt : j < prs.length
  · refine .inr ⟨w.goes j H' hlt qt, fun H'' => H'' D = some (.dT (tents ((ks.take (j + 1)).map fun k => (k, g k)))) ∧ Ex H2 H'', fun H'' p => ⟨prs.length - (j + 1), by omega, rfl, hlt, p⟩, fun y H'' yl => ?_⟩
    obtain ⟨rfl, hx⟩ := w.yields j H' y H'' hlt qt yl
    have eH := (e1.trans e2).trans a2
    obtain ⟨b, k, hk, rfl, hb⟩ := keys_get hp hx
    have lw : (wipe σ vs).length = σ.length := wipe_length σ vs
    refine ⟨wp _, .ref b, by rw [List.getElem?_set_self (by rw [lw]; exact hi)], he b k (List.mem_of_getElem? hk) (List.mem_of_getElem? hx) hb _ eH _ fun v H4 e4 hv => ⟨_, k, b, rfl, e4 _ _ (eH _ _ hb), e4 _ _ a1, ?_, ?_, fun b2 o hb2 => ?_⟩⟩
    · unfold tents
      rw [List.length_map, List.length_map, List.length_take, sizeLine_eq]
      omega
    · have tk : (ks.take (j + 1)).map (fun k => (k, g k)) = (ks.take j).map (fun k => (k, g k)) ++ [(k, g k)] := by
        rw [List.take_add_one, hk, List.map_append]
        rfl
      have nd : (((ks.take j).map (fun k => (k, g k)) ++ [(k, g k)]).map (·.1)).Nodup := by
        rw [← tk, List.map_map]
        show ((ks.take (j + 1)).map id).Nodup
        rw [List.map_id]
        exact nod.sublist (List.take_sublist _ _)
      rw [upd_same, show v = V.int (g k) from hv, tents_put nd, tk]
    · rw [upd_ne (ne_of_none hb2 hD)]
      exact e4 _ _ (a2 _ _ hb2)
  · have e : j = prs.length := by omega
    rw [e, le, List.take_length] at a1
    exact .inl ⟨by rw [e]; exact w.stops H' qt, q _ _ (e2.trans a2) ⟨D, rfl, a1⟩⟩
end
end Fi

set_option Elab.async false
set_option linter.all false
set_option maxRecDepth 100000
set_option maxHeartbeats 4000000
/-! Filling.__init__. -/
namespace Fi
open PySem PySem.Spec PyProof.Rows L2 EvP Cm Fk DtE Tb XG
def fmeth (j : Nat) : Stmt := match top 36 with
  | .ClassDef _ _ _ body _ _ _ _ _ _ _ => body.getD j (.Pass ⟨0, 0, 0, 0⟩)
  | _ => .Pass ⟨0, 0, 0, 0⟩
abbrev sFI : Stmt := fmeth 0
abbrev NFI : List Str := ["self", "amounts", "pair", "amount"]
theorem scFI : FnScope NFI ["self", "amounts"] (defScope sFI) := ⟨rfl, rfl, rfl, by decide +kernel, rfl, by decide +kernel, by decide +kernel⟩
/-- the class Filling -/
structure FilC (K : PySem.W.Frag) (C : Addr) : Prop where
  cl : Cls K C
  nP : NoAttr K C "pairs"
  nS : NoAttr K C "by_source"
  nU : NoAttr K C "by_use"
  nT : NoAttr K C "total"
  nA : NoAttr K C "_amounts"
  nR : NoAttr K C "_rows"
/-- the filling at x: its amounts, its sides -/
structure FilAt (CS C : Addr) (H : Hp) (x : Addr) (R : TRow) (S U : Fk.Row) : Prop where
  ex : ∃ (dx p s u d rr : Addr) (prs rows : List V), H x = some (.ins C dx [("pairs", .ref p), ("by_source", .ref s), ("by_use", .ref u), ("total", .int (R.map (·.2)).sum), ("_amounts", .ref d), ("_rows", .ref rr)]) ∧
    H p = some (.tup prs) ∧ All2 H ((R.map (·.1)).map isK) prs ∧ SideAt CS H s S ∧ SideAt CS H u U ∧ H d = some (.dT (tents R)) ∧ H rr = some (.tup rows) ∧ All2 H ((prs.zip R).map fun z => tupV [z.1, .int z.2.2]) rows
theorem FilAt.mono {CS C x : Addr} {H H' : Hp} {R : TRow} {S U : Fk.Row} (e : Ex H H') (h : FilAt CS C H x R S U) : FilAt CS C H' x R S U := by
  obtain ⟨dx, p, s, u, d, rr, prs, rows, h1, h2, h3, h4, h5, h6, h7, h8⟩ := h
  exact ⟨dx, p, s, u, d, rr, prs, rows, e _ _ h1, e _ _ h2, h3.ex e, h4.mono e, h5.mono e, e _ _ h6, e _ _ h7, h8.ex e⟩
theorem all2_but {H G : Hp} {x C dx : Addr} {fs : List (Str × V)} (hx : H x = some (.ins C dx fs)) (k : ∀ b o, H b = some o → b ≠ x → G b = some o) : ∀ {Ps : List PR} {vs : List V}, (∀ P ∈ Ps, ∃ ys, P = tupV ys) → All2 H Ps vs → All2 G Ps vs
  | [], _, _, .nil => .nil
  | P :: Ps, _, hP, .cons a r => .cons (by
      obtain ⟨ys, rfl⟩ := hP P (.head _)
      obtain ⟨b, ev, hb⟩ := a
      exact ⟨b, ev, k _ _ hb (ne_of hb hx fun z => nomatch z)⟩) (all2_but hx k (fun Q hQ => hP Q (.tail _ hQ)) r)
theorem keys_but {H G : Hp} {x C dx : Addr} {fs : List (Str × V)} {ks : List (List Key)} {vs : List V} (hx : H x = some (.ins C dx fs)) (k : ∀ b o, H b = some o → b ≠ x → G b = some o) (h : All2 H (ks.map isK) vs) : All2 G (ks.map isK) vs :=
  all2_but hx k (fun P hP => by obtain ⟨q, _, rfl⟩ := List.mem_map.mp hP; exact ⟨_, rfl⟩) h
theorem side_but {CS : Addr} {H G : Hp} {x C dx s : Addr} {v : V} {fs : List (Str × V)} {S : Fk.Row} (hx : H x = some (.ins C dx (("pairs", v) :: fs))) (k : ∀ b o, H b = some o → b ≠ x → G b = some o) (h : SideAt CS H s S) : SideAt CS G s S := by
  obtain ⟨dx', n, d, r, rows, h1, h2, h3, h4, h5⟩ := h
  have ne : s ≠ x := fun z => by
    rw [z, hx] at h1
    have e := Option.some.inj h1
    injection e with e1 e2 e3
    have e4 := (Prod.mk.inj (List.cons.inj e3).1).1
    exact absurd e4 (by decide)
  exact ⟨dx', n, d, r, rows, k _ _ h1 ne, k _ _ h2 (ne_of h2 hx fun z => nomatch z), k _ _ h3 (ne_of h3 hx fun z => nomatch z), k _ _ h4 (ne_of h4 hx fun z => nomatch z),
    all2_but hx k (fun P hP => by obtain ⟨q, _, rfl⟩ := List.mem_map.mp hP; exact ⟨_, rfl⟩) h5⟩
theorem rows_eq {H : Hp} {r : TRow} : ∀ {ks : List (List Key)} {vs : List V}, All2 H (ks.map isK) vs → vs.map (fun v => tupV [v, .int (amtI H r v)]) = (vs.zip (ks.map fun k => (k, amtT r k))).map fun z => tupV [z.1, .int z.2.2]
  | [], _, .nil => rfl
  | k :: ks, _, .cons ⟨a, ev, ha⟩ t => by
    subst ev
    rw [List.map_cons, List.map_cons, List.zip_cons_cons, List.map_cons, amtI_of ha, rows_eq t]
theorem told_look {r : TRow} (nod : (r.map (·.1)).Nodup) : ∀ k ∈ (toldT r).map (·.1), lookT r k = some (amtT r k) := fun k hk => by
  rw [told_key] at hk
  exact (amt_told nod ((sortK_perm _).mem_iff.mp hk)).1
theorem told_self (r : TRow) : ((toldT r).map (·.1)).map (fun k => (k, amtT r k)) = toldT r := by
  rw [told_key]
  rfl
theorem told_snd (r : TRow) : (toldT r).map (·.2) = ((toldT r).map (·.1)).map (amtT r) := by
  rw [told_key]
  unfold toldT
  rw [List.map_map]
  rfl
def sideP (CS : Addr) (S : Fk.Row) : PR := ⟨fun v H => ∃ b, v = .ref b ∧ SideAt CS H b S, fun _ _ _ e ⟨b, h1, h2⟩ => ⟨b, h1, h2.mono e⟩⟩
/-- the object at x before its fields are set again -/
theorem fil_ne {H : Hp} {x C dx b : Addr} {fs : List (Str × V)} {o : HO} (hb : H b = some o) (hx : H x = some (.ins C dx fs)) (h : o ≠ .ins C dx fs) : b ≠ x := fun z => by
  rw [z, hx] at hb
  exact h (Option.some.inj hb).symm
theorem side_ne {CS : Addr} {H : Hp} {x C dx s : Addr} {v : V} {fs : List (Str × V)} {S : Fk.Row} (hx : H x = some (.ins C dx (("pairs", v) :: fs))) (h : SideAt CS H s S) : s ≠ x := fun z => by
  obtain ⟨dx', n, d, r, rows, h1, _⟩ := h
  rw [z, hx] at h1
  have e := Option.some.inj h1
  injection e with e1 e2 e3
  exact absurd (Prod.mk.inj (List.cons.inj e3).1).1 (by decide)
def spFI (CS C : Addr) : Sp := fun vs H Q _ => ∃ (x d dx : Addr) (r : TRow), vs = [.ref x, .ref d] ∧ H x = some (.ins C dx []) ∧ H d = some (.dT (tents r)) ∧ Amts r ∧
  ∀ H', (∀ b o, H b = some o → b ≠ x → H' b = some o) → FilAt CS C H' x (toldT r) (told (sumsR 0 r)) (told (sumsR 1 r)) → Q .non H'
theorem spFI_len {CS C : Addr} : ∀ vs H Q E, spFI CS C vs H Q E → vs.length = (["self", "amounts"] : List Str).length := fun vs H Q E h => by
  obtain ⟨x, d, dx, r, rfl, _⟩ := h
  rfl
section
variable {P : Program} {w : World} {K : PySem.W.Frag} {mg : Str → Option Value} {base : Heap} {CS C f fC fA fS : Addr} {fd fdC fdA fdS : FuncData}
theorem ok_finit (F : Fun K "__init__" "Filling.__init__" sFI f fd) (S : FilC K C) (T : Blt mg) (T2 : Blt2 mg)
    (GC : FnOk P w K mg base CX0 3 fC fdC ["amounts"] spChk) (bC : Binds K fdC ["amounts"] []) (gC : mg "check_filling" = some (.ref fC)) (kC : PySem.W.keepIn K (.ref fC) = true)
    (GA : FnG P w K mg base CX0 1 fA fdA ["values"] (spAsc K)) (bA : Binds K fdA ["values"] []) (gA : mg "ascending" = some (.ref fA)) (kA : PySem.W.keepIn K (.ref fA) = true)
    (GS : FnOk P w K mg base CX0 7 fS fdS ["amounts", "end"] (spSums CS)) (bS : Binds K fdS ["amounts", "end"] []) (gS : mg "sums_by" = some (.ref fS)) (kS : PySem.W.keepIn K (.ref fS) = true) :
    FnG P w K mg base CX0 8 f fd ["self", "amounts"] (spFI CS C) := by
  have nd := scFI.nd
  refine Fun.okG F scFI spFI_len fun cdv A outer s H vs Q E gd hr h => ?_
  obtain ⟨x, d, dx, r, rfl, hx, hd, ok, q⟩ := h
  have hu : A.units + 3 + 1 < cLine := by
    have : A.units + 3 + 16 * 7 + 200 < cLine := hr.un
    omega
  refine ⟨_, pss_cons (ps_expr (pe_call GC (hr.mono (by decide)) (by rfl) gC kC bC .nil pass0 (pa_cons (pv 1) pa_nil)))
    (pss_cons (ps_fld (pv 0) (pe_callG GA spAsc_len gd (hr.mono (by decide)) (by rfl) gA kA bA (pa_cons (pe_lock (pe_lc (own := [("pair", 2), ("amount", 3)]) (g := gTup K 2 (gCons (gName 2) (gCons (gName 3) gNil))) (tt := tTest (tOp (rI0 fun i j => .bl (decide (j < i))) (tVar 3) (tC (.int 0)))) (te := tVar 2) rfl nd (by exact pi_itemsT (pv 1)) (blkOk_by (N := NFI) (sc := defScope sFI) (by decide +kernel))
        (fun _ _ _ _ _ => by exact pg_tup rfl (pgs_cons (pg_name (i := 2) nd rfl (Or.inl rfl)) (pgs_cons (pg_name (i := 3) nd rfl (Or.inl rfl)) pgs_nil))) (fun _ _ _ _ _ => pts_one (pt_cmpR op_gt (pv 3) pe_int (nomark _))) (fun _ _ _ _ _ => pv 2))) pa_nil)) rfl)
    (pss_cons (ps_fld (pv 0) (pe_call GS hr (by rfl) gS kS bS .nil pass0 (pa_cons (pv 1) (pa_cons pe_int pa_nil))) rfl)
    (pss_cons (ps_fld (pv 0) (pe_call GS hr (by rfl) gS kS bS .nil pass0 (pa_cons (pv 1) (pa_cons pe_int pa_nil))) rfl)
    (pss_cons (ps_fld (pv 0) (pe_callB (cr_sum rfl) (by rfl) T2.sum (by decide +kernel) (pa_cons (pe_lc (own := [("pair", 2)]) (g := gName 2) (tt := tYes) (te := tDGet (tVar 1) (tVar 2)) rfl nd (pi_tup (pe_fld (pv 0) rfl)) (blkOk_by (N := NFI) (sc := defScope sFI) (by decide +kernel))
        (fun _ _ _ _ _ => pg_name (i := 2) nd rfl (Or.inl rfl)) (fun _ _ _ _ _ => pts_nil) (fun _ _ _ _ _ => pe_dget hu (pv 1) (pv 2) (fun _ _ => rfl))) pa_nil)) rfl)
    (pss_cons (ps_fld (pv 0) (Dc1.pe_dc1 (own := [("pair", 2)]) (g := gName 2) (tt := tYes) (tk := tVar 2) (tv := tDGet (tVar 1) (tVar 2)) hu rfl nd (pi_tup (pe_fld (pv 0) rfl)) (blkOk_by (N := NFI) (sc := defScope sFI) (by decide +kernel))
        (fun _ _ _ _ _ => pg_name (i := 2) nd rfl (Or.inl rfl)) (fun _ _ _ _ _ => pts_nil) (fun _ _ _ _ _ => pv 2) (fun _ _ _ _ _ => pe_dget hu (pv 1) (pv 2) (fun _ _ => rfl))) rfl)
    (pss_one (ps_fld (pv 0) (pe_tupleOf (by rfl) T2.tuple (pe_lc (own := [("pair", 2)]) (g := gName 2) (tt := tYes) (te := tTup (tCons (tVar 2) (tCons (tDGet (tVar 1) (tVar 2)) tNil))) rfl nd (pi_tup (pe_fld (pv 0) rfl)) (blkOk_by (N := NFI) (sc := defScope sFI) (by decide +kernel))
        (fun _ _ _ _ _ => pg_name (i := 2) nd rfl (Or.inl rfl)) (fun _ _ _ _ _ => pts_nil) (fun _ _ _ _ _ => pe_tup (pa_cons (pv 2) (pa_cons (pe_dget hu (pv 1) (pv 2) (fun _ _ => rfl)) pa_nil))))) rfl))))))), ?_⟩
  refine ⟨_, rfl, d, r, rfl, hd, ok, fun H1 e1 => ?_⟩
  dsimp only
  have hx1 := e1 _ _ hx
  have hd1 := e1 _ _ hd
  have dx' : d ≠ x := ne_of hd hx (fun z => nomatch z)
  have few : ((toldT r).map (·.1)).length ≤ 1000 := by
    rw [List.length_map]
    have := told_len r
    have := ok.few
    omega
  have look := told_look ok.nod
  -- pairs
  refine' st_fld ?s1 ?k1
  case s1 => exact g_asc (r := r) (comp_pos (x := x) hd1 ok.few) ok.key
  intro v1 H2 e2 ⟨p, prs, ev, h1, hk⟩
  subst ev
  have hx2 := e2 _ _ hx1
  have ne1 : p ≠ x := ne_of h1 hx2 (fun z => nomatch z)
  refine ⟨x, C, dx, [], rfl, hx2, S.cl, S.nP, by show 0 < 1000; decide, ?_⟩
  have b2 : ∀ b o, H2 b = some o → b ≠ x → upd H2 x (.ins C dx (putF "pairs" (.ref p) [])) b = some o := fun b o h ne => by
    rw [upd_ne ne]
    exact h
  have k2 : ∀ b o, H b = some o → b ≠ x → upd H2 x (.ins C dx (putF "pairs" (.ref p) [])) b = some o := fun b o h ne => b2 _ _ (e2 _ _ (e1 _ _ h)) ne
  have f2 := upd_same (H := H2) (a := x) (o := .ins C dx (putF "pairs" (.ref p) []))
  have g1 := b2 _ _ h1 ne1
  have hk2 := keys_but hx2 b2 hk
  generalize upd H2 x (.ins C dx (putF "pairs" (.ref p) [])) = G2 at k2 f2 g1 hk2 ⊢
  have hd2 := k2 _ _ hd dx'
  -- by_source
  refine' st_fld (P := sideP CS (told (sumsR 0 r))) ?s2 ?k2
  case s2 => exact fun H3 e3 Q3 q3 => ⟨_, rfl, d, 0, r, rfl, by decide, e3 _ _ hd2, ok, fun b H4 e4 sb => q3 _ H4 e4 ⟨b, rfl, sb.at⟩⟩
  intro v2 H3 e3 ⟨sS, ev, hS⟩
  subst ev
  have hx3 := e3 _ _ f2
  refine ⟨x, C, dx, _, rfl, hx3, S.cl, S.nS, by show 1 < 1000; decide, ?_⟩
  have b3 : ∀ b o, H3 b = some o → b ≠ x → upd H3 x (.ins C dx (putF "by_source" (.ref sS) (putF "pairs" (.ref p) []))) b = some o := fun b o h ne => by
    rw [upd_ne ne]
    exact h
  have f3 := upd_same (H := H3) (a := x) (o := .ins C dx (putF "by_source" (.ref sS) (putF "pairs" (.ref p) [])))
  have S3 := side_but hx3 b3 hS
  have g3 := b3 _ _ (e3 _ _ g1) ne1
  have hk3 := keys_but hx3 b3 (hk2.ex e3)
  have hd3 := b3 _ _ (e3 _ _ hd2) dx'
  generalize upd H3 x (.ins C dx (putF "by_source" (.ref sS) (putF "pairs" (.ref p) []))) = G3 at b3 f3 S3 g3 hk3 hd3 ⊢
  -- by_use
  refine' st_fld (P := sideP CS (told (sumsR 1 r))) ?s3 ?k3
  case s3 => exact fun H4 e4 Q4 q4 => ⟨_, rfl, d, 1, r, rfl, by decide, e4 _ _ hd3, ok, fun b H5 e5 sb => q4 _ H5 e5 ⟨b, rfl, sb.at⟩⟩
  intro v3 H4 e4 ⟨sU, ev, hU⟩
  subst ev
  have hx4 := e4 _ _ f3
  refine ⟨x, C, dx, _, rfl, hx4, S.cl, S.nU, by show 2 < 1000; decide, ?_⟩
  have b4 : ∀ b o, H4 b = some o → b ≠ x → upd H4 x (.ins C dx (putF "by_use" (.ref sU) (putF "by_source" (.ref sS) (putF "pairs" (.ref p) [])))) b = some o := fun b o h ne => by
    rw [upd_ne ne]
    exact h
  have f4 := upd_same (H := H4) (a := x) (o := .ins C dx (putF "by_use" (.ref sU) (putF "by_source" (.ref sS) (putF "pairs" (.ref p) []))))
  have U4 := side_but hx4 b4 hU
  have S4 := side_but hx4 b4 (S3.mono e4)
  have g4 := b4 _ _ (e4 _ _ g3) ne1
  have hk4 := keys_but hx4 b4 (hk3.ex e4)
  have hd4 := b4 _ _ (e4 _ _ hd3) dx'
  generalize upd H4 x (.ins C dx (putF "by_use" (.ref sU) (putF "by_source" (.ref sS) (putF "pairs" (.ref p) [])))) = G4 at b4 f4 U4 S4 g4 hk4 hd4 ⊢
  -- total
  have lp : prs.length ≤ 1000 := by rw [keys_len hk4]; exact few
  refine' st_fld (P := is (.int ((toldT r).map (·.2)).sum)) ?s4 ?k4
  case s4 =>
    refine g_sum (ns := (toldT r).map (·.2)) ?_
    have eq : (prs.filter fun _ => true).map (fun v => V.int (amtI G4 r v)) = ((toldT r).map (·.2)).map V.int := by
      rw [List.filter_eq_self.mpr (fun _ _ => rfl), told_snd, ← keys_amt (r := r) hk4, List.map_map]
      rfl
    rw [← eq]
    exact comp_is (fun _ => true) (fun v => V.int (amtI G4 r v)) (walks_tup (g_fld rfl f4 S.cl S.nP rfl (⟨p, rfl, g4⟩ : (tupV prs).R (.ref p) G4))) lp (fun _ => rfl) (fun _ _ H2 _ Q h => h) (fun y hy _ => g_look hd4 look hk4 hy)
  intro v4 H5 e5 ev
  subst ev
  have hx5 := e5 _ _ f4
  refine ⟨x, C, dx, _, rfl, hx5, S.cl, S.nT, by show 3 < 1000; decide, ?_⟩
  have b5 : ∀ b o, H5 b = some o → b ≠ x → upd H5 x (.ins C dx (putF "total" (.int ((toldT r).map (·.2)).sum) (putF "by_use" (.ref sU) (putF "by_source" (.ref sS) (putF "pairs" (.ref p) []))))) b = some o := fun b o h ne => by
    rw [upd_ne ne]
    exact h
  have f5 := upd_same (H := H5) (a := x) (o := .ins C dx (putF "total" (.int ((toldT r).map (·.2)).sum) (putF "by_use" (.ref sU) (putF "by_source" (.ref sS) (putF "pairs" (.ref p) [])))))
  have U5 := side_but hx5 b5 (U4.mono e5)
  have S5 := side_but hx5 b5 (S4.mono e5)
  have g5 := b5 _ _ (e5 _ _ g4) ne1
  have hk5 := keys_but hx5 b5 (hk4.ex e5)
  have hd5 := b5 _ _ (e5 _ _ hd4) dx'
  generalize upd H5 x (.ins C dx (putF "total" (.int ((toldT r).map (·.2)).sum) (putF "by_use" (.ref sU) (putF "by_source" (.ref sS) (putF "pairs" (.ref p) []))))) = G5 at b5 f5 U5 S5 g5 hk5 hd5 ⊢
  -- _amounts
  refine' st_fld ?s5 ?k5
  case s5 =>
    exact comp_dT (amtT r) (g_fld rfl f5 S.cl S.nP rfl (⟨p, rfl, g5⟩ : (tupV prs).R (.ref p) G5)) hk5 few (told_nod ok.nod) (by show 2 < 4; decide) (fun _ => rfl) (fun b k mk mb hb => by
      have z := g_look (x := x) (o2 := none) hd5 look hk5 mb
      rw [amtI_of hb] at z
      exact z)
  intro v5 H6 e6 ⟨g, ev, hg⟩
  subst ev
  rw [told_self] at hg
  have hx6 := e6 _ _ f5
  have ne6 : g ≠ x := ne_of hg hx6 (fun z => nomatch z)
  refine ⟨x, C, dx, _, rfl, hx6, S.cl, S.nA, by show 4 < 1000; decide, ?_⟩
  have b6 : ∀ b o, H6 b = some o → b ≠ x → upd H6 x (.ins C dx (putF "_amounts" (.ref g) (putF "total" (.int ((toldT r).map (·.2)).sum) (putF "by_use" (.ref sU) (putF "by_source" (.ref sS) (putF "pairs" (.ref p) [])))))) b = some o := fun b o h ne => by
    rw [upd_ne ne]
    exact h
  have f6 := upd_same (H := H6) (a := x) (o := .ins C dx (putF "_amounts" (.ref g) (putF "total" (.int ((toldT r).map (·.2)).sum) (putF "by_use" (.ref sU) (putF "by_source" (.ref sS) (putF "pairs" (.ref p) []))))))
  have U6 := side_but hx6 b6 (U5.mono e6)
  have S6 := side_but hx6 b6 (S5.mono e6)
  have g6 := b6 _ _ (e6 _ _ g5) ne1
  have hk6 := keys_but hx6 b6 (hk5.ex e6)
  have hd6 := b6 _ _ (e6 _ _ hd5) dx'
  have hg6 := b6 _ _ hg ne6
  generalize upd H6 x (.ins C dx (putF "_amounts" (.ref g) (putF "total" (.int ((toldT r).map (·.2)).sum) (putF "by_use" (.ref sU) (putF "by_source" (.ref sS) (putF "pairs" (.ref p) [])))))) = G6 at b6 f6 U6 S6 g6 hk6 hd6 hg6 ⊢
  -- _rows
  refine' st_fld1 ?s6 ?k6
  case s6 =>
    refine g_tup (comp (fun _ => true) (fun v => tupV [v, .int (amtI G6 r v)]) (walks_tup (g_fld rfl f6 S.cl S.nP rfl (⟨p, rfl, g6⟩ : (tupV prs).R (.ref p) G6))) lp (fun _ => rfl) (fun _ _ H2 _ Q h => h) (fun y hy _ => ?_) (fun y hy => stays_tupV _))
    exact Gives.imp (EvP.tuple (EvP.cons (EvP.var rfl) (EvP.cons (g_look (x := x) (o2 := none) hd6 look hk6 hy) EvP.nil)) (by show 2 ≤ 1000; decide)) fun v H h => tup_is (xs := [y, .int (amtI G6 r y)]) h
  intro v6 H7 e7 ⟨rr, rows, ev, hr7, hrows⟩
  subst ev
  rw [List.filter_eq_self.mpr (fun _ _ => rfl), rows_eq hk6, told_self] at hrows
  have hx7 := e7 _ _ f6
  have ne7 : rr ≠ x := ne_of hr7 hx7 (fun z => nomatch z)
  refine ⟨x, C, dx, _, rfl, hx7, S.cl, S.nR, by show 5 < 1000; decide, ?_⟩
  have b7 : ∀ b o, H7 b = some o → b ≠ x → upd H7 x (.ins C dx (putF "_rows" (.ref rr) (putF "_amounts" (.ref g) (putF "total" (.int ((toldT r).map (·.2)).sum) (putF "by_use" (.ref sU) (putF "by_source" (.ref sS) (putF "pairs" (.ref p) []))))))) b = some o := fun b o h ne => by
    rw [upd_ne ne]
    exact h
  refine q _ (fun b o h ne => b7 _ _ (e7 _ _ (b6 _ _ (e6 _ _ (b5 _ _ (e5 _ _ (b4 _ _ (e4 _ _ (b3 _ _ (e3 _ _ (k2 _ _ h ne)) ne)) ne)) ne)) ne)) ne) ⟨dx, p, sS, sU, g, rr, prs, rows, upd_same, b7 _ _ (e7 _ _ g6) ne1, keys_but hx7 b7 (hk6.ex e7), side_but hx7 b7 (S6.mono e7), side_but hx7 b7 (U6.mono e7), b7 _ _ (e7 _ _ hg6) ne6, b7 _ _ hr7 ne7, ?_⟩
  exact all2_but hx7 b7 (fun P hP => by obtain ⟨z, _, rfl⟩ := List.mem_map.mp hP; exact ⟨_, rfl⟩) hrows
end
end Fi

set_option Elab.async false
set_option linter.all false
set_option maxRecDepth 100000
set_option maxHeartbeats 2000000
/-! _law_crossed. -/
namespace Fi
open PySem PySem.Spec PyProof.Rows L2 EvP Cm Fk DtE Tb XG
abbrev sCross : Stmt := top 43
abbrev NCr : List Str := ["ones", "twos", "found", "one", "two"]
theorem scCross : FnScope NCr ["ones", "twos"] (defScope sCross) := ⟨rfl, rfl, rfl, by decide +kernel, rfl, by decide +kernel, by decide +kernel⟩
/-- each of the one with each of the other -/
def crossK (ones twos : List Str) : List (List Key) := ones.flatMap fun o => twos.map fun t => key2 o t
def spCross : Sp := fun vs H Q _ => ∃ (a b : Addr) (ones twos : List Str), vs = [.ref a, .ref b] ∧ H a = some (.lst (ones.map V.str)) ∧ H b = some (.lst (twos.map V.str)) ∧ ones.length ≤ 10 ∧ twos.length ≤ 10 ∧
  ∀ l H' acc, Ex H H' → H l = none → H' l = some (.lst acc) → All2 H' ((crossK ones twos).map isK) acc → Q (.ref l) H'
theorem cross_len (twos : List Str) (h2 : twos.length ≤ 10) : ∀ ones : List Str, (crossK ones twos).length ≤ ones.length * 10
  | [] => Nat.le_refl _
  | o :: r => by
    have ih := cross_len twos h2 r
    unfold crossK at ih ⊢
    rw [List.flatMap_cons, List.length_append, List.length_map, List.length_cons]
    omega
section
variable {P : Program} {w : World} {K : PySem.W.Frag} {mg : Str → Option Value} {base : Heap} {f : Addr} {fd : FuncData}
theorem ok_cross (F : Fun K "_law_crossed" "_law_crossed" sCross f fd) : FnOk P w K mg base CX0 1 f fd ["ones", "twos"] spCross := by
  have nd := scCross.nd
  refine F.ok scCross (fun vs H Q E h => ?_) (fun cdv A outer s H vs Q E hr h => ?_)
  · obtain ⟨a, b, ones, twos, rfl, _⟩ := h
    rfl
  · obtain ⟨a, b, ones, twos, rfl, ha, hb, l1, l2, q⟩ := h
    refine ⟨_, pss_cons (ps_set (i := 2) nd rfl (Or.inl rfl) (pe_lst pa_nil))
      (pss_cons (ps_for PassesOwn.never rfl (pi_list (pv 0)) (pg_name (i := 3) nd rfl (Or.inl rfl))
        (pss_one (ps_for PassesOwn.never rfl (pi_list (pv 1)) (pg_name (i := 4) nd rfl (Or.inl rfl))
          (pss_one (ps_expr (pe_bm PySem.F.plainAttrs_list PySem.F.slot_list_append PySem.F.type_list_append mt_append (pv 2) (pa_cons (pe_tup (pa_cons (pv 3) (pa_cons (pv 4) pa_nil))) pa_nil)))))))
      (pss_one (ps_ret (pv 2)))), ?_⟩
    refine ⟨by rw [sizeLine_eq]; show 0 ≤ 16777216; omega, fun l hl => ?_⟩
    have ca : a ≠ l := ne_of_none ha hl
    have cb : b ≠ l := ne_of_none hb hl
    have keepA : ∀ {H'}, Ex H H' → H' a = some (.lst (ones.map V.str)) := fun e => e _ _ ha
    have keepB : ∀ {H'}, Ex H H' → H' b = some (.lst (twos.map V.str)) := fun e => e _ _ hb
    refine ⟨_, rfl, a, rfl, ⟨_, SqL.of (by rw [upd_ne ca]; exact ha)⟩, for_it (walk_list (xs := ones.map V.str)) (fun n o H' => ∃ y z acc, o = [some (.ref a), some (.ref b), some (.ref l), y, z] ∧ Ex H H' ∧ H' l = some (.lst acc) ∧ All2 H' ((crossK (ones.take n) twos).map isK) acc)
      ⟨none, none, [], rfl, Ex.new hl, upd_same, .nil⟩ (fun n o H' _ ⟨_, _, _, _, e, _⟩ => SqL.of (keepA e)) (fun n x o H' H2 hn z y => ?_) (fun o H' z => ?_)⟩
    · obtain ⟨y1, z1, acc, rfl, e, hacc, al⟩ := z
      obtain ⟨rfl, hx⟩ := y
      rw [List.getElem?_map] at hx
      obtain ⟨one, ho, rfl⟩ := Option.map_eq_some_iff.mp hx
      have tk : ones.take (n + 1) = ones.take n ++ [one] := by
        rw [List.take_add_one, ho]
        rfl
      have cl := cross_len twos l2 (ones.take n)
      rw [List.length_take] at cl
      refine ⟨_, rfl, b, rfl, ⟨_, SqL.of (keepB e)⟩, for_it (walk_list (xs := twos.map V.str)) (fun m o H' => ∃ z acc, o = [some (.ref a), some (.ref b), some (.ref l), some (.str one), z] ∧ Ex H H' ∧ H' l = some (.lst acc) ∧ All2 H' ((crossK (ones.take n) twos ++ (twos.take m).map fun t => key2 one t).map isK) acc)
        ⟨z1, acc, rfl, e, hacc, by rw [List.take_zero, List.map_nil, List.append_nil]; exact al⟩ (fun m o H' _ ⟨_, _, _, e, _⟩ => SqL.of (keepB e)) (fun m x o H3 H4 hm z y => ?_) (fun o H3 z => ?_)⟩
      · obtain ⟨z2, acc2, rfl, e2, hacc2, al2⟩ := z
        obtain ⟨rfl, hx⟩ := y
        rw [List.getElem?_map] at hx
        obtain ⟨two, ht, rfl⟩ := Option.map_eq_some_iff.mp hx
        have tk2 : twos.take (m + 1) = twos.take m ++ [two] := by
          rw [List.take_add_one, ht]
          rfl
        have len2 : acc2.length ≤ 110 := by
          have := keys_len al2
          rw [List.length_append, List.length_map, List.length_take] at this
          omega
        refine ⟨_, rfl, .inl ⟨rfl, _, SqL.of hacc2⟩, _, rfl, _, rfl, by rw [sizeLine_eq]; show 2 ≤ 16777216; decide, fun t ht2 => ⟨l, acc2, .ref t, rfl, rfl, Ex.new ht2 _ _ hacc2, by rw [sizeLine_eq]; omega, _, acc2 ++ [.ref t], rfl, fun b2 o hb2 => ?_, upd_same, ?_⟩⟩
        · rw [upd_ne (ne_of_none hb2 hl)]
          exact Ex.new ht2 _ _ (e2 _ _ hb2)
        · have es : (crossK (ones.take n) twos ++ (twos.take (m + 1)).map fun t => key2 one t) = (crossK (ones.take n) twos ++ (twos.take m).map fun t => key2 one t) ++ [key2 one two] := by
            rw [tk2, List.map_append, List.append_assoc]
            rfl
          rw [es]
          refine keys_upd (Ex.new ht2 _ _ hacc2) (fun _ z => nomatch z) ?_
          have z := all2_snoc (al2.ex (Ex.new (o := .tup [.str one, .str two]) ht2)) (P := isK (key2 one two)) (v := .ref t) ⟨t, rfl, upd_same⟩
          rw [List.map_append]
          exact z
      · obtain ⟨z2, acc2, rfl, e2, hacc2, al2⟩ := z
        refine ⟨_, _, acc2, rfl, e2, hacc2, ?_⟩
        have el : (twos.map V.str).length = twos.length := List.length_map ..
        rw [el, List.take_length] at al2
        have ec : crossK (ones.take (n + 1)) twos = crossK (ones.take n) twos ++ twos.map fun t => key2 one t := by
          unfold crossK
          rw [tk, List.flatMap_append]
          simp
        rw [ec]
        exact al2
    · obtain ⟨y1, z1, acc, rfl, e, hacc, al⟩ := z
      have el : (ones.map V.str).length = ones.length := List.length_map ..
      rw [el, List.take_length] at al
      exact ⟨_, rfl, q l H' acc e hl hacc al⟩
end
end Fi

set_option Elab.async false
set_option linter.all false
set_option maxRecDepth 100000
set_option maxHeartbeats 4000000
/-! Side.__str__. -/
namespace Cm
open PySem PySem.Spec PyProof.Rows L2 EvP
section
variable {K : PySem.W.Frag} {σ : L2.St} {H : Hp} {te : TE} {xs : List V} {vs : List Nat} {wi : TI} {g : TG}
/-- [e for target in xs], place by place -/
theorem compP {Ps : List PR} (hw : Walks wi σ H xs) (hz : xs.length ≤ 1000) (hl : Ps.length = xs.length)
    (step : ∀ (j : Nat) (x : V) (P : PR), xs[j]? = some x → Ps[j]? = some P → ∃ σ2 : L2.St, wipe σ2 vs = wipe σ vs ∧ (∀ H1, Ex H H1 → ∀ Q : L2.St → Hp → Prop, Q σ2 H1 → g x (wipe σ vs) H1 Q) ∧ EvP.Gives te σ2 H P) (st : ∀ P ∈ Ps, Stays P) :
    EvP.Gives (tLc wi g tYes te vs) σ H (lst H Ps) := fun H1 e1 Q q => by
  refine hw H1 e1 _ fun J H2 e2 ⟨G, w, gd⟩ D hD => ?_
  refine lc_it w (fun j H' => ∃ acc, H' D = some (.lst acc) ∧ Ex H2 H' ∧ All2 H' (Ps.take j) acc) ⟨[], upd_same, Ex.new hD, .nil⟩ (fun j H' _ ⟨_, _, e3, _⟩ => gd _ e3) (fun j x H' H'' hj ⟨acc, a1, a2, a3⟩ y => ?_) (fun H' ⟨acc, a1, a2, a3⟩ => ?_)
  · obtain ⟨rfl, hx⟩ := y
    have eH := (e1.trans e2).trans a2
    have hP : Ps[j]? = some (Ps[j]'(by omega)) := List.getElem?_eq_getElem _
    obtain ⟨σ2, s1, s2, s3⟩ := step j x _ hx hP
    refine s2 _ eH _ ⟨s1, ?_⟩
    refine s3 _ eH _ fun v H4 e4 hv => ⟨acc, e4 _ _ a1, ?_, acc ++ [v], upd_same, fun b o hb => ?_, ?_⟩
    · have := a3.length
      rw [List.length_take] at this
      rw [sizeLine_eq]
      omega
    · rw [upd_ne (ne_of_none hb hD)]
      exact e4 _ _ (a2 _ _ hb)
    · rw [List.take_add_one, hP]
      refine all2_stays (e4 _ _ a1) (fun P hQ => ?_) (all2_snoc (a3.ex e4) hv)
      rcases List.mem_append.mp hQ with hQ | hQ
      · exact st P (List.mem_of_mem_take hQ)
      · rw [List.mem_singleton.mp hQ]
        exact st _ (List.getElem_mem _)
  · rw [← hl, List.take_length] at a3
    exact q _ _ (e2.trans a2) ⟨D, acc, rfl, a1, (e1.trans e2).back hD, a3⟩
theorem walks_tupA {Ps : List PR} {tl : TE} {zs : List V} (h : EvP.Gives tl σ H (tupV zs)) : Walks (iTup K tl) σ H zs := walks_tup h
end
end Cm
namespace Fk
open PySem PySem.Spec PyProof.Rows L2 EvP Cm
abbrev sStr : Stmt := meth 18
theorem st_retJoin {σ : L2.St} {H : Hp} {D : Ends} {P : PR} {te : TE} {a : Str} {r : V → List V → Hp → VK → Prop} (h : EvP.Gives te σ H P) (k : ∀ v H1, Ex H H1 → P.R v H1 → r (.str a) [v] H1 D.rt) : tRet (tM1 r (tC (.str a)) te) D σ H := ⟨⟨a, rfl⟩, h H (Ex.refl H) _ k⟩
/-- a name and its amount, written -/
def wordT (t : Str × Int) : Str := Str.empty ++ t.1 ++ " " ++ numT t.2
def lineT (ts : Row) : Str := if ts.isEmpty = true then "-" else Txt.join " " (ts.map wordT)
/-- amounts that are written at once -/
structure Small (ts : Row) : Prop where
  nm : ∀ t ∈ ts, NameV (.str t.1)
  lo : ∀ t ∈ ts, 0 ≤ t.2
  hi : ∀ t ∈ ts, (Dg.dl t.2.toNat).length ≤ 10000
  few : ts.length < 64
theorem name_len {x : Str} (h : nameB x = true) : x.length ≤ 8 := by
  unfold nameB at h
  simp only [Bool.and_eq_true, decide_eq_true_eq] at h
  omega
theorem word_len {t : Str × Int} (hn : NameV (.str t.1)) (lo : 0 ≤ t.2) (hi : (Dg.dl t.2.toNat).length ≤ 10000) : (Str.empty ++ t.1).length ≤ 8 ∧ (Str.empty ++ t.1 ++ " ").length ≤ 9 ∧ (wordT t).length ≤ 10009 := by
  obtain ⟨z, ez, _, hb⟩ := hn
  cases ez
  have l1 := name_len hb
  have l2 : (numT t.2).length ≤ 10000 := by
    rw [← Dg.len_cps, Dg.numT_cps lo]
    exact hi
  have a0 : (Str.empty ++ t.1).length = t.1.length := by
    rw [Str.length_append]
    exact Nat.zero_add _
  have a1 : (Str.empty ++ t.1 ++ " ").length = t.1.length + 1 := by
    rw [Str.length_append, a0]
    rfl
  have a2 : (wordT t).length = t.1.length + 1 + (numT t.2).length := by
    unfold wordT
    rw [Str.length_append, a1]
  refine ⟨by omega, by omega, ?_⟩
  rw [a2]
  have : (numT t.2).length ≤ 10000 := l2
  omega
def spStr (C : Addr) : Sp := fun vs H Q _ => ∃ a ts, vs = [.ref a] ∧ SideAt C H a ts ∧ Small ts ∧ ∀ H', Ex H H' → Q (.str (lineT ts)) H'
theorem words_len : ∀ {ts : Row}, (∀ t ∈ ts, (wordT t).length ≤ 10009) → ((ts.map wordT).map (·.length)).sum ≤ ts.length * 10009
  | [], _ => Nat.le_refl _
  | t :: r, h => by
    have ih := words_len fun y hy => h y (.tail _ hy)
    have h0 := h t (.head _)
    rw [List.map_cons, List.map_cons, List.sum_cons, List.length_cons]
    omega
theorem scStr : FnScope ["self", "name", "amount"] ["self"] (defScope sStr) := ⟨rfl, rfl, rfl, by decide +kernel, rfl, by decide +kernel, by decide +kernel⟩
section
variable {P : Program} {w : World} {K : PySem.W.Frag} {mg : Str → Option Value} {base : Heap} {C f fN : Addr} {fd fdN : FuncData}
theorem ok_str (F : Fun K "__str__" "Side.__str__" sStr f fd) (S : SideC K C) (G : FnOk P w K mg base CX0 1 fN fdN ["number"] spNum) (b : Binds K fdN ["number"] []) (gN : mg "number_text" = some (.ref fN)) (kN : PySem.W.keepIn K (.ref fN) = true) : FnOk P w K mg base CX0 2 f fd ["self"] (spStr C) := by
  have nd := scStr.nd
  refine F.ok scStr (fun vs H Q E h => ?_) (fun cdv A outer s H vs Q E hr h => ?_)
  · obtain ⟨a, ts, rfl, _⟩ := h
    rfl
  · obtain ⟨a, ts, rfl, ⟨dx, n, d, r, rows, h1, h2, h3, h4, h5⟩, sm, q⟩ := h
    refine ⟨_, pss_cons (ps_if (pt_not (pt_truth (pe_fld (pv 0) rfl) (by intro _; rfl))) (pss_one (ps_ret pe_str)) pss_nil)
      (pss_one (ps_ret (pe_join pe_str (pe_lc (own := [("name", 1), ("amount", 2)]) (g := gTup K 2 (gCons (gName 1) (gCons (gName 2) gNil))) (tt := tYes) rfl nd (pi_tup (pe_fld (pv 0) rfl)) (blkOk_by (N := ["self", "name", "amount"]) (sc := defScope sStr) (by decide +kernel))
        (fun _ _ _ _ _ => by exact pg_tup rfl (pgs_cons (pg_name (i := 1) nd rfl (Or.inl rfl)) (pgs_cons (pg_name (i := 2) nd rfl (Or.inl rfl)) pgs_nil))) (fun _ _ _ _ _ => pts_nil)
        (fun _ _ _ _ _ => pe_joined (.cons (pe_fmt (pv 1)) (.cons pe_str (.cons (pe_fmt (pe_call G hr (by rfl) gN kN b .nil pass0 (pa_cons (pv 2) pa_nil))) .nil)))))))), ?_⟩
    refine ⟨_, rfl, a, C, dx, _, _, rfl, h1, S.cl, S.nN, rfl, _, .inr (.inl ⟨_, SqT.of h2, rfl⟩), ?_⟩
    cases ts with
    | nil => exact q H (Ex.refl H)
    | cons t0 tr =>
      generalize hts : t0 :: tr = ts at *
      have ne : ts.isEmpty = false := by
        rw [← hts]
        rfl
      have line : lineT ts = Txt.join " " (ts.map wordT) := by
        unfold lineT
        rw [ne, if_neg Bool.false_ne_true]
      have emp : (ts.map fun t => V.str t.1).isEmpty = false := by
        rw [← hts]
        rfl
      rw [emp]
      have rl : rows.length = ts.length := by
        have := h5.length
        rw [List.length_map] at this
        exact this
      rw [if_neg (by decide)]
      dsimp only [tNext]
      refine' st_retJoin ?h1 ?k1
      case h1 =>
        refine compP (Ps := ts.map fun t => is (.str (wordT t))) (walks_tup (g_fld rfl h1 S.cl S.nR rfl (⟨r, rfl, h4⟩ : (tupV rows).R (.ref r) H))) (by rw [rl]; have := sm.few; omega) (by rw [List.length_map, rl]) (fun j x P hx hP => ?_) (fun P hP => ?_)
        · rw [List.getElem?_map] at hP
          obtain ⟨t, ht, rfl⟩ := Option.map_eq_some_iff.mp hP
          have mt := List.mem_of_getElem? ht
          obtain ⟨v, hv, p, ev, hp⟩ := h5.get (i := j) (P := tupV [.str t.1, .int t.2]) (by rw [List.getElem?_map, ht]; rfl)
          have exv : x = v := Option.some.inj (hx.symm.trans hv)
          subst exv
          subst ev
          obtain ⟨l1, l2, l3⟩ := word_len (sm.nm t mt) (sm.lo t mt) (sm.hi t mt)
          have big : ∀ {k}, k ≤ 10009 → k ≤ sizeLine := fun h => by
            rw [sizeLine_eq]
            omega
          have ln : t.1.length ≤ sizeLine := by
            obtain ⟨z, ez, hz, _⟩ := sm.nm t mt
            cases ez
            exact hz
          have lm : (numT t.2).length ≤ sizeLine := by
            rw [← Dg.len_cps, Dg.numT_cps (sm.lo t mt)]
            exact big (Nat.le_trans (sm.hi t mt) (by decide))
          refine ⟨[some (.ref a), some (.str t.1), some (.int t.2)], rfl, fun H1 e Q k => ⟨p, _, rfl, SqT.of (e _ _ hp), rfl, _, _, rfl, _, _, rfl, rfl, k⟩, fun H1 e Q k => ?_⟩
          exact ⟨_, rfl, .inl ⟨t.1, rfl, ln, t.1, rfl, big (by omega), " ", rfl, big (by omega), _, rfl, t.2, rfl, sm.lo t mt, sm.hi t mt, fun H' e' => .inl ⟨numT t.2, rfl, lm, numT t.2, rfl, big l3, k _ _ e' rfl⟩⟩⟩
        · obtain ⟨t, _, rfl⟩ := List.mem_map.mp hP
          exact stays_is _
      intro v H1 e1 ⟨D, ws, ev, hD, _, hs⟩
      subst ev
      have ews : ws = (ts.map wordT).map V.str := by
        rw [List.map_map]
        refine all2_is (H := H1) ?_
        rw [List.map_map]
        exact hs
      subst ews
      refine ⟨" ", D, ts.map wordT, rfl, rfl, .inl (SqL.of hD), ?_, by rw [← line]; exact q _ e1⟩
      have w := words_len (ts := ts) fun t mt => (word_len (sm.nm t mt) (sm.lo t mt) (sm.hi t mt)).2.2
      have f := sm.few
      rw [List.length_map]
      show _ + ts.length * 1 ≤ 16777216
      omega
end
end Fk

set_option Elab.async false
set_option linter.all false
set_option maxRecDepth 100000
set_option maxHeartbeats 4000000
/-! Signs of own instances: a def of the class that keeps a promise, asked by a sign. -/
namespace Own
open PySem PySem.Spec PyProof.Rows L2
/-- the method m of the class at C: its def at f keeps sp -/
structure Mt (P : Program) (w : World) (K : PySem.W.Frag) (mg : Str → Option Value) (base : Heap) (C : Addr) (m : Str) (k : Nat) (ps : List Str) (sp : Sp) (f : Addr) (fd : FuncData) : Prop where
  at_ : PySem.W.findIn K (.ref C) m = some (some (.ref f))
  fn : PySem.W.isFn K (.ref f) = true
  ok : FnOk P w K mg base CX0 k f fd ps sp
  b : Binds K fd ps []
section
variable {X : Cx} {pins : List (Addr × Obj)} {σ : L2.St} {H : Hp} {s : Shared} {C f : Addr} {fd : FuncData} {k : Nat} {ps : List Str} {sp : Sp} {m : Str}
/-- the call of a def within the builtins that the frame runs -/
theorem run_at {A' : Around} {vs : List V} {us : List Value} {Q : VK} (F : FnOk X.prog X.w X.K X.mg X.base CX0 k f fd ps sp) (b : Binds X.K fd ps []) (frames : A'.frames = X.A.frames) (hr : Room k A') (I : Inv X pins σ H s) (r : Vals vs us) (h : sp vs H Q E0) :
    wpAny (model X.prog X.w) A' (call (.ref f) us) (EP X pins σ Q) X.xe s := by
  have e := I.env0
  have n : (us ++ []).length = ps.length := by rw [List.append_nil, ← r.length]; exact F.len _ _ _ _ h
  refine wpAny_call (codeAny_mono (F.run A' X.stack s H ⟨us, []⟩ (us ++ []) vs Q E0 hr ⟨frames.trans e.frames, e.mod, e.bs, e.bsz, e.funs, e.frf, e.hok, e.bare⟩ (b s us I.kIn n) (by rw [List.append_nil]; exact r) h) fun r s' q => ?_)
  cases r with
  | error e => exact (show False from q).elim
  | ok fl =>
    cases fl with
    | ret u => exact I.after q
    | next => exact (show False from q).elim
    | brk => exact (show False from q).elim
    | cont => exact (show False from q).elim
theorem ins_at {a dx : Addr} {fs : List (Str × V)} (I : Inv X pins σ H s) (e : H a = some (.ins C dx fs)) : ∃ ox od, PySem.W.InstAt s.heap a ox C od := by
  obtain ⟨mA, O, _⟩ := ins_get I.hok e
  obtain ⟨od, J, _⟩ := O.look
  exact ⟨_, _, J⟩
theorem not_ni {v : V} {u : Value} (r : RelV v u) : u ≠ .notImplemented := by
  rintro rfl
  cases v with
  | non => cases (show Value.notImplemented = Value.none from r)
  | bl b => cases (show Value.notImplemented = Value.bool b from r)
  | int i => obtain ⟨t, e⟩ := (show ∃ t, Value.notImplemented = Value.int i t from r); cases e
  | str i => obtain ⟨t, e⟩ := (show ∃ t, Value.notImplemented = Value.str i t from r); cases e
  | byt i => obtain ⟨t, e⟩ := (show ∃ t, Value.notImplemented = Value.bytes i t from r); cases e
  | flt i => obtain ⟨t, e⟩ := (show ∃ t, Value.notImplemented = Value.float i t from r); cases e
  | ref i => cases (show Value.notImplemented = Value.ref i from r)
  | ty i => cases (show Value.notImplemented = Value.type i from r)
theorem cmp_back {Q : VK} {u : Value} {s' : Shared} (h : EP X pins σ Q u s') : PySem.W.CmpBack (EP X pins σ Q) u s' := by
  obtain ⟨v, H', I', r, q⟩ := h
  have n := not_ni r
  cases u <;> first | exact absurd rfl n | exact ⟨v, H', I', r, q⟩
/-- an instance of the class at C -/
def Ins (H : Hp) (x : V) (C : Addr) : Prop := ∃ a dx fs, x = .ref a ∧ H a = some (.ins C dx fs)
/-- x op y, both of the class -/
def rOwn (C : Addr) (sp : Sp) : R2 := fun x y H Q => Ins H x C ∧ Ins H y C ∧ sp [x, y] H Q E0
theorem op_own {op : Operator} (M : Mt X.prog X.w X.K X.mg X.base C (PySem.dunder op.info.2) k ps sp f fd) (first : PySem.W.selfFirst X.K C = true) (hr : Room k X.A) : OpR X (binaryOp op) (rOwn C sp) := by
  intro pins s σ H x y v u Q I rx ry h
  obtain ⟨⟨a, dx, fs, rfl, ha⟩, ⟨b, dy, gs, rfl, hb⟩, h⟩ := h
  cases rx
  cases ry
  obtain ⟨ox, od, J⟩ := ins_at I ha
  obtain ⟨oy, oe, L⟩ := ins_at I hb
  obtain ⟨m, fr⟩ := I.fr
  exact PySem.W.binop_K fr I.ok.mod.kin J L.type first M.at_ M.fn (wpAny_mono (run_at M.ok M.b rfl hr I (.cons (show RelV (V.ref a) (Value.ref a) from rfl) (.cons (show RelV (V.ref b) (Value.ref b) from rfl) .nil)) h) (fun _ _ z => cmp_back z) fun _ _ z => z)
/-- x op y, a comparison that is no identity: y's type is told by t -/
def rCmpOwn (K : PySem.W.Frag) (C : Addr) (sp : Sp) : R2 := fun x y H Q => Ins H x C ∧ Ins H y C ∧ sp [x, y] H Q E0
theorem cmp_own {op : CmpOp} (M : Mt X.prog X.w X.K X.mg X.base C (cmpInfo op).2.1 k ps sp f fd) (hr : Room k X.A) (hop : ∀ a b : Value, compareOp op a b = richCompare op a b := by intro _ _; rfl) : OpR X (compareOp op) (rCmpOwn X.K C sp) := by
  intro pins s σ H x y v u Q I rx ry h
  obtain ⟨⟨a, dx, fs, rfl, ha⟩, ⟨b, dy, gs, rfl, hb⟩, h⟩ := h
  cases rx
  cases ry
  obtain ⟨ox, od, J⟩ := ins_at I ha
  obtain ⟨oy, oe, L⟩ := ins_at I hb
  obtain ⟨m, fr⟩ := I.fr
  rw [hop]
  exact PySem.W.cmp_K (tb := .ref C) (by have := hr.un; omega) fr I.ok.mod.kin J L.type (by unfold PySem.W.notFirst; simp) M.at_ M.fn (wpAny_mono (run_at M.ok M.b rfl hr I (.cons (show RelV (V.ref a) (Value.ref a) from rfl) (.cons (show RelV (V.ref b) (Value.ref b) from rfl) .nil)) h) (fun _ _ z => cmp_back z) fun _ _ z => z)
/-- y in x, by the class's own def, which answers True or False -/
def rInOwn (neg : Bool) (C : Addr) (sp : Sp) : R2 := fun y x H Q => Ins H x C ∧ sp [x, y] H (fun v H' => ∃ b, v = .bl b ∧ Q (.bl (if neg then !b else b)) H') E0
theorem in_own (M : Mt X.prog X.w X.K X.mg X.base C "__contains__" k ps sp f fd) (hr : Room k X.A) : OpR X (compareOp .In) (rInOwn false C sp) := by
  intro pins s σ H y x v u Q I ry rx h
  obtain ⟨⟨a, dx, fs, rfl, ha⟩, h⟩ := h
  cases rx
  obtain ⟨ox, od, J⟩ := ins_at I ha
  obtain ⟨m, fr⟩ := I.fr
  refine PySem.W.in_K fr I.ok.mod.kin J M.at_ M.fn (wpAny_mono (run_at M.ok M.b rfl hr I (.cons (show RelV (V.ref a) (Value.ref a) from rfl) (.cons ry .nil)) h) (fun r s' z => ?_) fun _ _ z => z)
  obtain ⟨v', H', I', rv, b, rfl, q⟩ := z
  obtain rfl : r = Value.bool b := rv
  exact wpAny_truthy_bool ⟨.bl b, _, I', rfl, q⟩
theorem notIn_own (M : Mt X.prog X.w X.K X.mg X.base C "__contains__" k ps sp f fd) (hr : Room k X.A) : OpR X (compareOp .NotIn) (rInOwn true C sp) := by
  intro pins s σ H y x v u Q I ry rx h
  obtain ⟨⟨a, dx, fs, rfl, ha⟩, h⟩ := h
  cases rx
  obtain ⟨ox, od, J⟩ := ins_at I ha
  obtain ⟨m, fr⟩ := I.fr
  refine PySem.W.notIn_K fr I.ok.mod.kin J M.at_ M.fn (wpAny_mono (run_at M.ok M.b rfl hr I (.cons (show RelV (V.ref a) (Value.ref a) from rfl) (.cons ry .nil)) h) (fun r s' z => ?_) fun _ _ z => z)
  obtain ⟨v', H', I', rv, b, rfl, q⟩ := z
  obtain rfl : r = Value.bool b := rv
  exact wpAny_truthy_bool ⟨.bl (!b), _, I', rfl, q⟩
/-- x[y] by the class's own def -/
def rIxOwn (C : Addr) (sp : Sp) : R2 := fun x y H Q => Ins H x C ∧ sp [x, y] H Q E0
theorem ix_own (M : Mt X.prog X.w X.K X.mg X.base C "__getitem__" k ps sp f fd) (fi : PySem.W.fnIn X.K f = true) (hr : Room (k + 1) X.A)
    (hsl : ∀ (slice : Expr) (v u : Value), subscripted slice true v u = runValue (.builtin "lifetime.subscript" ⟨[v, u], []⟩) := by intro _ _ _; with_unfolding_all rfl) : IxR X (rIxOwn C sp) := by
  intro value slice pins s σ H x y v u Q I rx ry h hs
  obtain ⟨⟨a, dx, fs, rfl, ha⟩, h⟩ := h
  cases rx
  obtain ⟨ox, od, J⟩ := ins_at I ha
  obtain ⟨m, fr⟩ := I.fr
  exact PySem.W.sub_K fr I.ok.mod.kin J M.at_ fi M.fn (run_at M.ok M.b rfl hr.in1 I (.cons (show RelV (V.ref a) (Value.ref a) from rfl) (.cons ry .nil)) h) (hsl _ _ _)
/-- len(x) by the class's own def -/
def rLenOwn (C : Addr) (sp : Sp) : List V → Hp → VK → Prop := fun xs H Q => ∃ x, xs = [x] ∧ Ins H x C ∧ sp [x] H (fun v H' => ∃ n : Nat, v = .int n ∧ n < 1000000 ∧ Q (.int n) H') E0
theorem call_lenOwn (M : Mt X.prog X.w X.K X.mg X.base C "__len__" k ps sp f fd) (hr : Room (k + 1) X.A) : CallR X (.builtin "len") (rLenOwn C sp) := by
  intro pins s σ H xs us Q I r h
  obtain ⟨_, rfl, ⟨a, dx, fs, rfl, ha⟩, h⟩ := h
  obtain ⟨u, rfl, ru⟩ := vals1 r
  cases ru
  obtain ⟨ox, od, J⟩ := ins_at I ha
  obtain ⟨m, fr⟩ := I.fr
  refine PySem.W.len_K fr I.ok.mod.kin J M.at_ M.fn (wpAny_mono (run_at M.ok M.b rfl hr.in1 I (.cons (show RelV (V.ref a) (Value.ref a) from rfl) .nil) h) (fun r s' z => ?_) fun _ _ z => z)
  obtain ⟨v', H', I', rv, n, rfl, hn, q⟩ := z
  obtain ⟨t, rfl⟩ := rv
  exact ⟨⟨by omega, by omega⟩, .int n, H', I'.tok _, ⟨_, rfl⟩, q⟩
/-- str(x) by the class's own def -/
def rStrOwn (C : Addr) (sp : Sp) : List V → Hp → VK → Prop := fun xs H Q => ∃ x, xs = [x] ∧ Ins H x C ∧ sp [x] H (fun v H' => ∃ z : Str, v = .str z ∧ Q (.str z) H') E0
theorem call_strOwn (M : Mt X.prog X.w X.K X.mg X.base C "__str__" k ps sp f fd) (hr : Room (k + 2) X.A) : CallR X (.type "str") (rStrOwn C sp) := by
  intro pins s σ H xs us Q I r h
  obtain ⟨_, rfl, ⟨a, dx, fs, rfl, ha⟩, h⟩ := h
  obtain ⟨u, rfl, ru⟩ := vals1 r
  cases ru
  obtain ⟨ox, od, J⟩ := ins_at I ha
  refine PySem.W.kso_call (by have := hr.un; show X.A.units + 1 + 1 < cLine; omega) I.kIn J M.at_ M.fn (wpAny_mono (run_at M.ok M.b rfl hr.in1.in1 I (.cons (show RelV (V.ref a) (Value.ref a) from rfl) .nil) h) (fun r s' z => ?_) fun _ _ z => z)
  obtain ⟨v', H', I', rv, t, rfl, q⟩ := z
  obtain ⟨u, rfl⟩ := rv
  exact ⟨.str t, H', I', ⟨_, rfl⟩, q⟩
/-- ~x by the class's own def -/
theorem un_own (M : Mt X.prog X.w X.K X.mg X.base C "__invert__" k ps sp f fd) (hr : Room k X.A) : UnR X (unaryOp .Invert) (fun x H Q => Ins H x C ∧ sp [x] H Q E0) := by
  intro pins s σ H x v Q I rx h
  obtain ⟨⟨a, dx, fs, rfl, ha⟩, h⟩ := h
  cases rx
  obtain ⟨ox, od, J⟩ := ins_at I ha
  obtain ⟨m, fr⟩ := I.fr
  exact PySem.W.ksp_inv fr I.ok.mod.kin J M.at_ M.fn (run_at M.ok M.b rfl hr I (.cons (show RelV (V.ref a) (Value.ref a) from rfl) .nil) h)
end
end Own

set_option Elab.async false
set_option linter.all false
set_option maxRecDepth 100000
set_option maxHeartbeats 4000000
/-! An own instance is walked: its __iter__ hands back the iterator of a tuple. -/
namespace Own
open PySem PySem.Spec PyProof.Rows L2 ItX
/-- at it an iterator over the tuple at t, at its start -/
def ItT (t it : Addr) : HO := .ext fun h => h.IsTupleIter it t 0
theorem itT_ok {P : Program} {w : World} {H : Hp} {h : Heap} {t it : Addr} (e : h.IsTupleIter it t 0) : ObjOk P w H h it (ItT t it) := by
  obtain ⟨o, ho, r⟩ := e
  exact ⟨⟨o, ho, r⟩, ⟨o, ho⟩, fun h1 h2 z k => by
    obtain ⟨o1, e1, r1⟩ := z
    exact ⟨o1, k _ e1, r1⟩⟩
section
variable {X : Cx} {pins : List (Addr × Obj)} {σ : L2.St} {H : Hp} {s : Shared}
theorem itT_get {t it : Addr} (I : Inv X pins σ H s) (e : H it = some (ItT t it)) : s.heap.IsTupleIter it t 0 := by
  have x : ObjOk X.prog X.w H s.heap it (.ext fun h => h.IsTupleIter it t 0) := I.hok it _ e
  exact x.1
/-- iter(t), t a tuple; n: what the heap held when the def began -/
def rIterT (K : PySem.W.Frag) (n : Nat) : List V → Hp → VK → Prop := fun xs H Q => ∃ (t : Addr) (zs : List V), xs = [.ref t] ∧ SqT K H t zs ∧ ∀ it, H it = none → n ≤ it → Q (.ref it) (upd H it (ItT t it))
theorem call_iterT : CallR X (.builtin "iter") (rIterT X.K X.s_0.heap.objs.size) := by
  intro pins s σ H xs us Q I r h
  obtain ⟨t, zs, rfl, hq, q⟩ := h
  obtain ⟨u, rfl, ru⟩ := vals1 r
  cases ru
  obtain ⟨its, rv, p, hz⟩ := I.tuple hq
  refine Calls.call_function_entry (by decide +kernel) (by decide +kernel) PySem.W.kdk_entry_iter (PySem.W.kdk_args_iter _) ?_
  unfold Builtin.«iter»
  refine wpAny_bind (m := someArgs "iter" 1 2 _) (wpAny_of_eq (a := [Value.ref t]) (by first | rfl | kernel_rfl!) ?_)
  show wpAny _ _ (pyIter (.ref t) >>= _) _ _ _
  refine wpAny_bind (wpAny_pyIter_tuple (show s.heap.IsTuple t its.toArray from p) (wpAny_pure ⟨_, rfl, ?_⟩))
  have new : (s.heap.push { cls := .type "tuple_iterator", data := .fields #[.ref t, .int 0 0] }).IsTupleIter s.heap.objs.size t 0 := ⟨_, Heap.get?_push_size _ rfl, rfl, rfl⟩
  exact ⟨.ref s.heap.objs.size, _, I.laid (t' := s.toks) (fun b u e => Heap.get?_push_of_some _ e) (Nat.le_refl _) (itT_ok new), rfl, q _ (I.hok.fresh (Nat.le_refl _)) I.sz⟩
end
section
variable {P : Program} {w : World} {K : PySem.W.Frag} {mg : Str → Option Value} {base : Heap} {k : Nat} {f : Addr} {fd : FuncData} {ps : List Str}
/-- a def whose promise may speak of the size of the heap at its call -/
structure FnZ (P : Program) (w : World) (K : PySem.W.Frag) (mg : Str → Option Value) (base : Heap) (k : Nat) (f : Addr) (ps : List Str) (fd : FuncData) (sp : Nat → Sp) : Prop where
  run : ∀ (A : Around) (outer : List Env) (s : Shared) (H : Hp) (args : Args) (us : List Value) (vs : List V) (Q : VK), Room k A → Env0 P w K mg base A outer s H →
    BindsTo s fd args (ps.zip us) → Vals vs us → vs.length = ps.length → sp s.heap.objs.size vs H Q E0 → codeAny (model P w) A (.call (.ref f) args) (CR CX0 outer P w H s Q E0) s
theorem Fun.okZ {sp : Nat → Sp} {x qual : Str} {st : Stmt} {N : List Str} (F : Fun K x qual st f fd) (S : FnScope N ps (defScope st))
    (walk : ∀ (cdv : Value) (A : Around) (outer : List Env) (s : Shared) (H : Hp) (vs : List V) (Q : VK), Room k (A.deeper (envOfC qual (defScope st) s.heap.objs.size f cdv)) → sp s.heap.objs.size vs H Q E0 →
      ∃ t, PSs (cxOf CX0 P w K mg base N qual (defScope st) f cdv A outer s H E0).nox (defBody st) t ∧ t { nx := fun _ H' => Q .non H', rt := Q } (start N vs) H) : FnZ P w K mg base (k + 1) f ps fd sp := by
  obtain ⟨oc, od, kV, doc, pm, an, cdv, ct, osl, rfl, lk, hcd⟩ := F.ex
  refine ⟨fun A outer s H args us vs Q room e0 bd r n1 h => ?_⟩
  have inH : ∀ b o, base.get? b = some o → s.heap.get? b = some o := fun b o e => (e0.bs b o e).1
  have kin : K.In s.heap := e0.mod.kin.keeps inH
  have par : ∀ y ∈ ps.zip us, (defScope st).names.lookup y.1 = some .local ∨ ((defScope st).names.lookup y.1 = some .cell ∧ ((cellsFrom (s.heap.objs.size + 1) (defScope st).names []).lookup y.1).isSome = true) := by
    rintro ⟨y, z⟩ hy
    exact (S.par y (List.of_mem_zip hy).1).imp id fun q => ⟨q, PySem.W.cellsFrom_some _ _ _ (.inl q)⟩
  refine codeAny_call_function room.depth (kin _ _ lk) rfl S.co S.gen rfl (PySem.W.codeRec_of kin hcd) (bd _ _ _ _ (wpAny_newFunctionEnv_cells S.kind par fun env he s1 z => ?_))
  subst he
  refine ⟨(e0.mod.nolimit.keeps inH).keeps z.toInCall.keep, codeAny_func ?_⟩
  obtain ⟨t, ok, ends⟩ := walk cdv A outer s H vs Q (room.deeper _) h
  have J := inv_start (CX := CX0) (E := E0) S room.hd e0 n1 r z
  refine wpAny_mono (ok.nox.run [] s1 _ H _ J ends) (fun fl s' q => ?_) fun e s' q => q
  rcases fl with u | _ | _ | _
  all_goals first
    | (obtain ⟨v, σ', H', J', rv, q⟩ := q; exact ⟨v, H', J'.os, J'.bare, J'.base, J'.hok, rv, q⟩)
    | (obtain ⟨σ', H', J', q⟩ := q; exact ⟨V.non, H', J'.os, J'.bare, J'.base, J'.hok, rfl, q⟩)
    | (obtain ⟨_, _, _, q⟩ := q; exact q.elim)
end
section
variable {X : Cx} {C f : Addr} {fd : FuncData} {k : Nat} {ps : List Str} {sp : Nat → Sp} {tg e : Expr} {te : TE}
/-- for .. in e, e an own instance -/
def iOwn (K : PySem.W.Frag) (C : Addr) (sp : Nat → Sp) (te : TE) : TI := fun σ H R => te σ H fun x H1 => Ins H1 x C ∧ ∀ n, sp n [x] H1 (fun v H2 => ∃ it t, v = .ref it ∧ H2 it = some (ItT t it) ∧ n ≤ it ∧ R (Itt K t) (dropH H2 it)) E0
theorem pi_own (at_ : PySem.W.findIn X.K (.ref C) "__iter__" = some (some (.ref f))) (fn : PySem.W.isFn X.K (.ref f) = true) (F : FnZ X.prog X.w X.K X.mg X.base k f ["self"] fd sp) (b : Binds X.K fd ["self"] []) (hr : Room k X.A) (he : PE X e te) : PI X tg e (iOwn X.K C sp te) := by
  refine ⟨fun pins s σ H R I h => thn (he.run pins s σ H _ I h) fun v s1 ⟨x, H1, I1, r1, ⟨a, dx, fs, ex, ha⟩, q⟩ => ?_⟩
  subst ex
  cases r1
  obtain ⟨ox, od, J⟩ := ins_at I1 ha
  obtain ⟨m, fr⟩ := I1.fr
  have e0 := I1.env0
  refine PySem.W.owit_iter fr I1.ok.mod.kin J at_ fn (wpAny_call (codeAny_mono (F.run X.A X.stack s1 H1 ⟨[.ref a], []⟩ [.ref a] [.ref a] _ hr e0 (b s1 [.ref a] I1.kIn rfl) (.cons rfl .nil) rfl (q s1.heap.objs.size)) fun r s' z => ?_))
  cases r with
  | error e => exact (show False from z).elim
  | ok fl =>
    cases fl with
    | next => exact (show False from z).elim
    | brk => exact (show False from z).elim
    | cont => exact (show False from z).elim
    | ret u =>
      obtain ⟨v, H2, I2, rv, it, t, rfl, hi, hn, hR⟩ := I1.after z
      cases rv
      have st := itT_get I2 hi
      obtain ⟨o, ho, hc, hd⟩ := id st
      show PySem.W.OwitIt _ _ _ _ _ _
      unfold PySem.W.OwitIt specialOf
      have ty : s'.TypeIs (.ref it) "tuple_iterator" := ⟨o, ho, hc⟩
      refine wpAny_bind (wpAny_typeOf ty ?_)
      rw [PySem.F.slot_tuple_iterator_next.lookup]
      refine wpAny_pure ?_
      have hi' := hi
      unfold ItT at hi'
      refine ⟨it, [it], _, _, dropH H2 it, rfl, inv_drop I2 hi', turn_tuple t it, st, fun b hb => ?_, hR⟩
      obtain rfl : b = it := by simpa using hb
      exact inv_fp I2 hi (Nat.le_trans I1.sz hn)
end
end Own

set_option Elab.async false
set_option linter.all false
set_option maxRecDepth 100000
set_option maxHeartbeats 4000000
/-! Side.__eq__ and Side.__iter__. -/
namespace Fk
open PySem PySem.Spec PyProof.Rows L2 EvP Cm
abbrev sIter : Stmt := meth 3
abbrev sEq : Stmt := meth 16
/-- a row as data -/
def rowD (t : Str × Int) : PyData := .tuple [.str t.1, .int t.2]
def rowsD (ts : Row) : PyData := .tuple (ts.map rowD)
theorem dp_rows {K : PySem.W.Frag} {H : Hp} : ∀ {ts : Row} {rows : List V}, All2 H (ts.map fun t => tupV [V.str t.1, .int t.2]) rows → DpAll K H rows (ts.map rowD)
  | [], _, .nil => .nil
  | _ :: _, _, .cons ⟨_, ev, ha⟩ r => by
    subst ev
    exact .cons (.tup (SqT.of ha) (.cons (.str _) (.cons (.int _) .nil))) (dp_rows r)
theorem eqv_rows : ∀ ts us : Row, PyData.eqvAll (ts.map rowD) (us.map rowD) = decide (ts = us)
  | [], [] => rfl
  | [], _ :: _ => rfl
  | _ :: _, [] => rfl
  | t :: ts, u :: us => by
    show (PyData.eqv (rowD t) (rowD u) && PyData.eqvAll (ts.map rowD) (us.map rowD)) = _
    rw [eqv_rows ts us]
    have e : PyData.eqv (rowD t) (rowD u) = decide (t = u) := by
      show ((t.1 == u.1) && ((t.2 == u.2) && true)) = _
      obtain ⟨a, b⟩ := t
      obtain ⟨c, d⟩ := u
      by_cases h1 : a = c
      · by_cases h2 : b = d
        · simp [h1, h2]
        · simp [h2]
      · simp [h1]
    rw [e]
    by_cases h1 : t = u
    · by_cases h2 : ts = us
      · simp [h1, h2]
      · simp [h2]
    · simp [h1]
theorem depth_rows : ∀ ts : Row, PyData.depthAll (ts.map rowD) ≤ 1
  | [] => Nat.zero_le _
  | t :: ts => by
    have ih := depth_rows ts
    show max (PyData.depth (rowD t)) (PyData.depthAll (ts.map rowD)) ≤ 1
    have : PyData.depth (rowD t) = 1 := rfl
    omega
theorem lay_rows : ∀ {ts : Row}, (∀ t ∈ ts, PyData.strOk t.1 = true) → PyData.canLayAll0 (ts.map rowD) = true
  | [], _ => rfl
  | t :: ts, h => by
    have ih := lay_rows fun y hy => h y (.tail _ hy)
    show (PyData.canLay0 (rowD t) && PyData.canLayAll0 (ts.map rowD)) = true
    rw [ih, Bool.and_true]
    show (PyData.strOk t.1 && (true && true)) = true
    rw [h t (.head _)]
    rfl
theorem shaped_rows {ts : Row} (h : ∀ t ∈ ts, PyData.strOk t.1 = true) : SeqAt.shaped (rowsD ts) = true := by
  have d := depth_rows ts
  show (PyData.canLayAll0 (ts.map rowD) && decide (PyData.depthAll (ts.map rowD) + 1 ≤ 64)) = true
  rw [lay_rows h, decide_eq_true (by omega)]
  rfl
/-- side == side -/
def spEq (C : Addr) : Sp := fun vs H Q _ => ∃ a b ts us, vs = [.ref a, .ref b] ∧ SideAt C H a ts ∧ SideAt C H b us ∧ (∀ t ∈ ts, PyData.strOk t.1 = true) ∧ (∀ t ∈ us, PyData.strOk t.1 = true) ∧ Q (.bl (decide (ts = us))) H
/-- side == any other kind of thing -/
def spNe (K : PySem.W.Frag) (C : Addr) : Sp := fun vs H Q _ => ∃ x y t, vs = [x, y] ∧ TyX K H y t ∧ PySem.W.kitOne K t (.ref C) = some false ∧ Q (.bl false) H
def spEqs (K : PySem.W.Frag) (C : Addr) : Sp := fun vs H Q E => spEq C vs H Q E ∨ spNe K C vs H Q E
theorem scEq : FnScope ["self", "other"] ["self", "other"] (defScope sEq) := ⟨rfl, rfl, rfl, by decide +kernel, rfl, by decide +kernel, by decide +kernel⟩
theorem scIter : FnScope ["self"] ["self"] (defScope sIter) := ⟨rfl, rfl, rfl, by decide +kernel, rfl, by decide +kernel, by decide +kernel⟩
/-- the class, asked of its own instances -/
structure SideI (K : PySem.W.Frag) (C : Addr) : Prop where
  ha : PySem.W.findIn K (.ref C) "__class__" = some (some (.builtin "object.__class__"))
  hn : PySem.W.specialIn K (.builtin "object.__class__") "__get__" = some (some (.builtin "getset_descriptor.__get__"))
  htk : PySem.W.takesIn K (.builtin "object.__class__") = some true
  hm : PySem.W.mroIn K C (.type "object") = some true
/-- iter(side) -/
def spIter (C : Addr) (n : Nat) : Sp := fun vs H Q _ => ∃ a ts, vs = [.ref a] ∧ SideAt C H a ts ∧ ∀ r rows it, H r = some (.tup rows) → All2 H (ts.map fun t => tupV [V.str t.1, .int t.2]) rows → H it = none → n ≤ it → Q (.ref it) (upd H it (Own.ItT r it))
section
variable {P : Program} {w : World} {K : PySem.W.Frag} {mg : Str → Option Value} {base : Heap} {C f : Addr} {fd : FuncData}
theorem ok_eq (F : Fun K "__eq__" "Side.__eq__" sEq f fd) (S : SideC K C) (SI : SideI K C) (T : Blt mg) (gS : mg "Side" = some (.ref C)) : FnOk P w K mg base CX0 1 f fd ["self", "other"] (spEqs K C) := by
  refine F.ok scEq (fun vs H Q E h => ?_) (fun cdv A outer s H vs Q E hr h => ?_)
  · rcases h with ⟨a, b, ts, us, rfl, _⟩ | ⟨x, y, t, rfl, _⟩ <;> rfl
  · refine ⟨_, pss_one (ps_ret (pe_and (pe_callB call_isi (by rfl) T.isi (by decide +kernel) (pa_cons (pv 1) (pa_cons (pe_glob (v := .ref C) (by rfl) gS rfl) pa_nil)))
      (pe_one (pe_cmpR (op_eqD hr.units) (pe_fld (pv 0) rfl) (pe_fld (pv 1) rfl) (nomark _))))), ?_⟩
    rcases h with ⟨a, b, ts, us, rfl, ⟨dx, n, d, r, rows, h1, h2, h3, h4, h5⟩, ⟨dx', n', d', r', rows', k1, k2, k3, k4, k5⟩, o1, o2, q⟩ | ⟨x, y, t, rfl, ty, kt, q⟩
    · refine ⟨_, rfl, _, _, _, _, true, rfl, .own C, .base (.ins k1 S.cl SI.ha SI.hn SI.htk SI.hm), ?_, _, rfl, ?_⟩
      · unfold PySem.W.kitOne
        rw [if_pos (by simp)]
      refine ⟨_, rfl, a, C, dx, _, _, rfl, h1, S.cl, S.nR, rfl, _, rfl, b, C, dx', _, _, rfl, k1, S.cl, S.nR, rfl, rowsD ts, rowsD us, .tup (SqT.of h4) (dp_rows h5), .tup (SqT.of k4) (dp_rows k5), shaped_rows o1, shaped_rows o2, ?_⟩
      rw [show PyData.eqv (rowsD ts) (rowsD us) = decide (ts = us) from eqv_rows ts us]
      exact q
    · exact ⟨_, rfl, _, _, _, _, false, rfl, .own C, ty, kt, _, rfl, q⟩
theorem ok_iter (F : Fun K "__iter__" "Side.__iter__" sIter f fd) (S : SideC K C) (hI : mg "iter" = none) : Own.FnZ P w K mg base 1 f ["self"] fd (spIter C) := by
  refine Own.Fun.okZ F scIter fun cdv A outer s H vs Q hr h => ?_
  obtain ⟨a, ts, rfl, ⟨dx, n, d, r, rows, h1, h2, h3, h4, h5⟩, q⟩ := h
  refine ⟨_, pss_one (ps_ret (pe_callB Own.call_iterT (by rfl) hI (by decide +kernel) (pa_cons (pe_fld (pv 0) rfl) pa_nil))), ?_⟩
  exact ⟨_, rfl, a, C, dx, _, _, rfl, h1, S.cl, S.nR, rfl, r, rows, rfl, SqT.of h4, fun it hit hn => q r rows it h4 h5 hit hn⟩
end
end Fk

set_option Elab.async false
set_option linter.all false
set_option maxRecDepth 100000
set_option maxHeartbeats 4000000
/-! Filling.__eq__. -/
namespace Fi
open PySem PySem.Spec PyProof.Rows L2 EvP Cm Fk DtE Tb XG
abbrev sFEq : Stmt := fmeth 19
theorem scFEq : FnScope ["self", "other"] ["self", "other"] (defScope sFEq) := ⟨rfl, rfl, rfl, by decide +kernel, rfl, by decide +kernel, by decide +kernel⟩
/-- a row as data -/
def rowK (t : List Key × Int) : PyData := .tuple [.tuple (t.1.map toD), .int t.2]
def rowsK (R : TRow) : PyData := .tuple (R.map rowK)
theorem dp_key {K : PySem.W.Frag} {H : Hp} : ∀ k : List Key, DpAll K H (k.map kV) (k.map toD)
  | [] => .nil
  | .inl i :: k => .cons (.int i) (dp_key k)
  | .inr x :: k => .cons (.str x) (dp_key k)
theorem dp_rowsK {K : PySem.W.Frag} {H : Hp} : ∀ {R : TRow} {prs rows : List V}, All2 H ((R.map (·.1)).map isK) prs → All2 H ((prs.zip R).map fun z => tupV [z.1, .int z.2.2]) rows → DpAll K H rows (R.map rowK)
  | [], _, _, .nil, .nil => .nil
  | t :: R, _, _, .cons ⟨_, ev, ha⟩ r, h => by
    subst ev
    cases h with
    | cons a r2 =>
      obtain ⟨b, ev, hb⟩ := a
      subst ev
      exact .cons (.tup (SqT.of hb) (.cons (.tup (SqT.of ha) (dp_key t.1)) (.cons (.int _) .nil))) (dp_rowsK r r2)
/-- keys as Python may compare them -/
def FitK (R : TRow) : Prop := ∀ t ∈ R, ∃ a x, t.1 = key2 a x ∧ PyData.strOk a = true ∧ PyData.strOk x = true
theorem eqv_rowsK : ∀ {R S : TRow}, FitK R → FitK S → PyData.eqvAll (R.map rowK) (S.map rowK) = decide (R = S)
  | [], [], _, _ => rfl
  | [], _ :: _, _, _ => rfl
  | _ :: _, [], _, _ => rfl
  | t :: R, u :: S, hR, hS => by
    show (PyData.eqv (rowK t) (rowK u) && PyData.eqvAll (R.map rowK) (S.map rowK)) = _
    rw [eqv_rowsK (fun y hy => hR y (.tail _ hy)) fun y hy => hS y (.tail _ hy)]
    have e : PyData.eqv (rowK t) (rowK u) = decide (t = u) := by
      obtain ⟨a, x, et, _⟩ := hR t (.head _)
      obtain ⟨b, y, eu, _⟩ := hS u (.head _)
      obtain ⟨k, n⟩ := t
      obtain ⟨l, m⟩ := u
      subst et eu
      show (((a == b) && ((x == y) && true)) && ((n == m) && true)) = _
      by_cases h1 : a = b
      · by_cases h2 : x = y
        · by_cases h3 : n = m
          · simp [h1, h2, h3]
          · simp [h3]
        · simp [key2, h2]
      · simp [key2, h1]
    rw [e]
    by_cases h1 : t = u
    · by_cases h2 : R = S
      · simp [h1, h2]
      · simp [h2]
    · simp [h1]
theorem depth_rowsK : ∀ {R : TRow}, FitK R → PyData.depthAll (R.map rowK) ≤ 2
  | [], _ => Nat.zero_le _
  | t :: R, h => by
    have ih := depth_rowsK fun y hy => h y (.tail _ hy)
    show max (PyData.depth (rowK t)) (PyData.depthAll (R.map rowK)) ≤ 2
    obtain ⟨a, x, et, _⟩ := h t (.head _)
    have : PyData.depth (rowK t) = 2 := by
      obtain ⟨k, n⟩ := t
      subst et
      rfl
    omega
theorem lay_rowsK : ∀ {R : TRow}, FitK R → PyData.canLayAll0 (R.map rowK) = true
  | [], _ => rfl
  | t :: R, h => by
    have ih := lay_rowsK fun y hy => h y (.tail _ hy)
    show (PyData.canLay0 (rowK t) && PyData.canLayAll0 (R.map rowK)) = true
    rw [ih, Bool.and_true]
    obtain ⟨a, x, et, oa, ox⟩ := h t (.head _)
    obtain ⟨k, n⟩ := t
    subst et
    show ((PyData.strOk a && (PyData.strOk x && true)) && (true && true)) = true
    rw [oa, ox]
    rfl
theorem shaped_rowsK {R : TRow} (h : FitK R) : SeqAt.shaped (rowsK R) = true := by
  have d := depth_rowsK h
  show (PyData.canLayAll0 (R.map rowK) && decide (PyData.depthAll (R.map rowK) + 1 ≤ 64)) = true
  rw [lay_rowsK h, decide_eq_true (by omega)]
  rfl
/-- filling == filling -/
def spFEq (CS C : Addr) : Sp := fun vs H Q _ => ∃ a b R R' S U S' U', vs = [.ref a, .ref b] ∧ FilAt CS C H a R S U ∧ FilAt CS C H b R' S' U' ∧ FitK R ∧ FitK R' ∧ Q (.bl (decide (R = R'))) H
/-- filling == any other kind of thing -/
def spFEqs (K : PySem.W.Frag) (CS C : Addr) : Sp := fun vs H Q E => spFEq CS C vs H Q E ∨ spNe K C vs H Q E
section
variable {P : Program} {w : World} {K : PySem.W.Frag} {mg : Str → Option Value} {base : Heap} {CS C f : Addr} {fd : FuncData}
theorem ok_feq (F : Fun K "__eq__" "Filling.__eq__" sFEq f fd) (S : FilC K C) (SI : SideI K C) (T : Blt mg) (gS : mg "Filling" = some (.ref C)) : FnOk P w K mg base CX0 1 f fd ["self", "other"] (spFEqs K CS C) := by
  refine F.ok scFEq (fun vs H Q E h => ?_) (fun cdv A outer s H vs Q E hr h => ?_)
  · rcases h with ⟨a, b, R, R', S1, U1, S2, U2, rfl, _⟩ | ⟨x, y, t, rfl, _⟩ <;> rfl
  · refine ⟨_, pss_one (ps_ret (pe_and (pe_callB call_isi (by rfl) T.isi (by decide +kernel) (pa_cons (pv 1) (pa_cons (pe_glob (v := .ref C) (by rfl) gS rfl) pa_nil)))
      (pe_one (pe_cmpR (op_eqD hr.units) (pe_fld (pv 0) rfl) (pe_fld (pv 1) rfl) (nomark _))))), ?_⟩
    rcases h with ⟨a, b, R, R', S1, U1, S2, U2, rfl, ⟨dx, p, s1, u1, d, rr, prs, rows, h1, h2, h3, h4, h5, h6, h7, h8⟩, ⟨dx', p', s1', u1', d', rr', prs', rows', k1, k2, k3, k4, k5, k6, k7, k8⟩, o1, o2, q⟩ | ⟨x, y, t, rfl, ty, kt, q⟩
    · refine ⟨_, rfl, _, _, _, _, true, rfl, .own C, .base (.ins k1 S.cl SI.ha SI.hn SI.htk SI.hm), ?_, _, rfl, ?_⟩
      · unfold PySem.W.kitOne
        rw [if_pos (by simp)]
      refine ⟨_, rfl, a, C, dx, _, _, rfl, h1, S.cl, S.nR, rfl, _, rfl, b, C, dx', _, _, rfl, k1, S.cl, S.nR, rfl, rowsK R, rowsK R', .tup (SqT.of h7) (dp_rowsK h3 h8), .tup (SqT.of k7) (dp_rowsK k3 k8), shaped_rowsK o1, shaped_rowsK o2, ?_⟩
      rw [show PyData.eqv (rowsK R) (rowsK R') = decide (R = R') from eqv_rowsK o1 o2]
      exact q
    · exact ⟨_, rfl, _, _, _, _, false, rfl, .own C, ty, kt, _, rfl, q⟩
end
end Fi

set_option Elab.async false
set_option linter.all false
set_option maxRecDepth 100000
set_option maxHeartbeats 4000000
namespace K17
open PySem PySem.Spec PyProof.Rows L2
def top (i : Nat) : Stmt := PySem.Challenge.pw_filledrow_k17_texts_of_fillings.main.body.getD i (.Pass ⟨0, 0, 0, 0⟩)
abbrev sPen : Stmt := top 39
abbrev sDraw : Stmt := top 40
abbrev sPick : Stmt := top 41
/-! ### the pen -/
/-- the pen at p: its cells ns at q, how many were drawn, what is left of a great one -/
structure Pen (H : Hp) (p q : Addr) (ns : List Int) (s g : Int) : Prop where
  p : H p = some (.lst [.ref q, .int s, .int g])
  q : H q = some (.lst (ns.map V.int))
theorem Pen.ne {H : Hp} {p q : Addr} {ns : List Int} {s g : Int} (x : Pen H p q ns s g) : p ≠ q := ne_of x.p x.q (by
  intro z
  cases ns with
  | nil => cases z
  | cons a r => cases z)
/-- all stands but at p -/
def But (p : Addr) (H H' : Hp) : Prop := ∀ b o, H b = some o → b ≠ p → H' b = some o
def spPen (K : PySem.W.Frag) : Sp := fun vs H Q _ => ∃ (a : Addr) (ns : List Int), vs = [.ref a] ∧ SqL K H a (ns.map V.int) ∧ ns.length ≤ 63 ∧
  ∀ (p q : Addr) (ms : List Int) (H' : Hp), ms.length ≤ 63 → Pen H' p q ms 0 0 → (∀ b o, H b = some o → H' b = some o) → Q (.ref p) H'
def spDraw : Sp := fun vs H Q _ => ∃ (p q : Addr) (ns : List Int) (s g m : Int), vs = [.ref p, .int m] ∧ Pen H p q ns s g ∧ ns.length ≤ 63 ∧ 0 ≤ s ∧ s < 100000 ∧ 0 < m ∧ m < 100000 ∧
  ∀ (k s' g' : Int) (H' : Hp), 0 ≤ k → k < m → s ≤ s' → s' ≤ s + 1 → Pen H' p q ns s' g' → But p H H' → Q (.int k) H'
/-- the built-ins that are still themselves -/
structure Blt (mg : Str → Option Value) : Prop where
  int : mg "int" = none
  len : mg "len" = none
  abs : mg "abs" = none
  lst : mg "list" = none
section
variable {P : Program} {w : World} {K : PySem.W.Frag} {mg : Str → Option Value} {base : Heap} {f : Addr} {fd : FuncData}
theorem scPen : FnScope ["script"] ["script"] (defScope sPen) := ⟨rfl, rfl, rfl, by decide +kernel, rfl, by decide +kernel, by decide +kernel⟩
theorem ints_cut : ∀ (ns : List Int) (lo hi : Option Int), ∃ ms : List Int, cutV (ns.map V.int) lo hi = ms.map V.int ∧ ms.length ≤ ns.length := by
  intro ns lo hi
  refine ⟨(ns.drop (HT.sIx (ns.map V.int).length 0 lo)).take (HT.sIx (ns.map V.int).length (ns.map V.int).length hi - HT.sIx (ns.map V.int).length 0 lo), ?_, ?_⟩
  · unfold cutV
    rw [List.map_take, List.map_drop]
  · rw [List.length_take, List.length_drop]
    omega
theorem ok_pen (F : Fun K "_law_pen" "_law_pen" sPen f fd) (T : Blt mg) : FnOk P w K mg base CX0 1 f fd ["script"] (spPen K) := by
  refine F.ok scPen (fun vs H Q E h => ?_) (fun cdv A outer s H vs Q E hr h => ?_)
  · obtain ⟨a, ns, rfl, _⟩ := h
    rfl
  · obtain ⟨a, ns, rfl, hS, hl, k⟩ := h
    refine ⟨_, pss_one (ps_ret (pe_lst (pa_cons (pe_callTy call_list_of (by rfl) T.lst (by decide +kernel) (pa_cons (pe_slice sl_list (pv 0) po_none (po_some pe_int)) pa_nil)) (pa_cons pe_int (pa_cons pe_int pa_nil))))), ?_⟩
    obtain ⟨ms, e, hm⟩ := ints_cut ns none (some 59)
    refine ⟨_, rfl, _, rfl, a, _, rfl, hS, fun p hp => ?_⟩
    rw [e]
    refine ⟨p, _, rfl, .inl (SqL.of upd_same), fun l hl' => ⟨by show 3 ≤ sizeLine; decide, fun r hr' => ?_⟩⟩
    have nl : l ≠ p := fun z => by
      rw [z, upd_same] at hl'
      cases hl'
    have nr : r ≠ l := fun z => by
      rw [z, upd_same] at hr'
      cases hr'
    refine k r l ms _ (by omega) ⟨upd_same, by rw [upd_ne nr.symm, upd_same]⟩ fun b o z => ?_
    have z1 : (upd H p (.lst (ms.map V.int))) b = some o := by rw [upd_ne (ne_of_none z hp)]; exact z
    have z2 : (upd (upd H p (.lst (ms.map V.int))) l (.lst (ms.map V.int))) b = some o := by rw [upd_ne (ne_of_none z1 hl')]; exact z1
    rw [upd_ne (ne_of_none z2 hr')]
    exact z2
end
end K17

set_option Elab.async false
set_option linter.all false
set_option maxRecDepth 100000
set_option maxHeartbeats 4000000
namespace K17
open PySem PySem.Spec PyProof.Rows L2
theorem scDraw : FnScope ["pen", "many", "digit", "spot", "cell", "great", "mixed"] ["pen", "many"] (defScope sDraw) := ⟨rfl, rfl, rfl, by decide +kernel, rfl, by decide +kernel, by decide +kernel⟩
theorem fm (i : Int) {m : Int} (h : 0 < m) : 0 ≤ i.fmod m ∧ i.fmod m < m := ⟨Int.fmod_nonneg_of_pos i h, Int.fmod_lt_of_pos i h⟩
theorem dp_ints {K : PySem.W.Frag} {H : Hp} : ∀ ns : List Int, DpAll K H (ns.map V.int) (ns.map PyData.int)
  | [] => .nil
  | n :: r => .cons (.int n) (dp_ints r)
theorem lay_ints : ∀ ns : List Int, PyData.canLayAll0 (ns.map PyData.int) = true
  | [] => rfl
  | n :: r => by
    show (PyData.canLay0 (.int n) && PyData.canLayAll0 (r.map PyData.int)) = true
    rw [lay_ints r]
    rfl
theorem deep_ints : ∀ ns : List Int, PyData.depthAll (ns.map PyData.int) ≤ 1
  | [] => Nat.zero_le _
  | n :: r => by
    have := deep_ints r
    show max (PyData.depth (.int n)) (PyData.depthAll (r.map PyData.int)) ≤ 1
    have e : PyData.depth (.int n) = 0 := rfl
    omega
theorem shaped_ints (ns : List Int) : SeqAt.shaped (.list (ns.map PyData.int)) = true := by
  have h1 : PyData.canLay0 (.list (ns.map PyData.int)) = true := lay_ints ns
  have h2 : PyData.depth (.list (ns.map PyData.int)) ≤ 64 := by
    have := deep_ints ns
    show PyData.depthAll (ns.map PyData.int) + 1 ≤ 64
    omega
  unfold SeqAt.shaped
  rw [h1, decide_eq_true h2]
  rfl
theorem eqv_none (ns : List Int) : PyData.eqv (.list (ns.map PyData.int)) (.list []) = ns.isEmpty := by
  cases ns <;> rfl
section
variable {P : Program} {w : World} {K : PySem.W.Frag} {mg : Str → Option Value} {base : Heap} {f : Addr} {fd : FuncData}
theorem ok_draw (F : Fun K "_law_draw" "_law_draw" sDraw f fd) (T : Blt mg) : FnOk P w K mg base CX0 1 f fd ["pen", "many"] spDraw := by
  refine F.ok scDraw (fun vs H Q E h => ?_) (fun cdv A outer s H vs Q E hr h => ?_)
  · obtain ⟨p, q, ns, s, g, m, rfl, _⟩ := h
    rfl
  · obtain ⟨p, q, ns, s, g, m, rfl, hP, hl, hs0, hs1, hm0, hm1, k⟩ := h
    have nd := scDraw.nd
    have hu : (cxOf CX0 P w K mg base ["pen", "many", "digit", "spot", "cell", "great", "mixed"] "_law_draw" (defScope sDraw) f cdv A outer ‹Shared› H E).nox.A.units + 64 < cLine := by
      have z := hr.un
      show (A.deeper _).units + 64 < cLine
      omega
    refine ⟨_, pss_cons (ps_if (pt_cmpR op_gt (pe_ix ix_list (pv 0) pe_int (fun _ _ => rfl)) pe_int (nomark _))
        (pss_cons (ps_set (i := 2) nd rfl (Or.inl rfl) (pe_op op_modN (pe_callTy call_int1 (by rfl) T.int (by decide +kernel) (pa_cons (pe_ix ix_list (pv 0) pe_int (fun _ _ => rfl)) pa_nil)) (pv 1)))
          (pss_cons (ps_asg (pe_op op_fdivN (pe_callTy call_int1 (by rfl) T.int (by decide +kernel) (pa_cons (pe_ix ix_list (pv 0) pe_int (fun _ _ => rfl)) pa_nil)) (pv 1)) (pg_sub (pv 0) pe_int set_list))
            (pss_one (ps_ret (pv 2))))) pss_nil)
      (pss_cons (ps_set (i := 3) nd rfl (Or.inl rfl) (pe_ix ix_list (pv 0) pe_int (fun _ _ => rfl)))
      (pss_cons (ps_asg (pe_op op_add (pv 3) pe_int) (pg_sub (pv 0) pe_int set_list))
      (pss_cons (ps_set (i := 4) nd rfl (Or.inl rfl) (pe_op op_add (pe_op op_mul pe_int (pv 3)) pe_int))
      (pss_cons (ps_if (pt_cmpR (op_neD hu) (pe_ix ix_list (pv 0) pe_int (fun _ _ => rfl)) (pe_lst pa_nil) (nomark _))
        (pss_one (ps_set (i := 4) nd rfl (Or.inl rfl) (pe_ix ix_list (pe_ix ix_list (pv 0) pe_int (fun _ _ => rfl))
          (pe_op op_modN (pe_callTy call_int1 (by rfl) T.int (by decide +kernel) (pa_cons (pv 3) pa_nil)) (pe_callB call_len_seq (by rfl) T.len PySem.boot_len (pa_cons (pe_ix ix_list (pv 0) pe_int (fun _ _ => rfl)) pa_nil))) (fun _ _ => rfl)))) pss_nil)
      (pss_cons (ps_if (PW.pt (pw_and (pt_cmpR op_lt (pv 3) (pe_callB call_len_seq (by rfl) T.len PySem.boot_len (pa_cons (pe_ix ix_list (pv 0) pe_int (fun _ _ => rfl)) pa_nil)) (nomark _))
          (pw_and1 (pt_cmpR op_ge (pe_callB call_abs (by rfl) T.abs (by decide +kernel) (pa_cons (pv 4) pa_nil)) (pe_op op_pow pe_int pe_int) (nomark _)))))
        (pss_cons (ps_set (i := 5) nd rfl (Or.inl rfl) (pe_op op_add (pe_op op_mul pe_int (pe_op op_sub (pe_callB call_abs (by rfl) T.abs (by decide +kernel) (pa_cons (pv 4) pa_nil)) (pe_op op_pow pe_int pe_int)))
            (pe_callTy call_int1 (by rfl) T.int (by decide +kernel) (pa_cons (pe_cmpR op_lt (pv 4) pe_int (nomark _)) pa_nil))))
          (pss_cons (ps_asg (pe_op op_fdivN (pe_callTy call_int1 (by rfl) T.int (by decide +kernel) (pa_cons (pv 5) pa_nil)) (pv 1)) (pg_sub (pv 0) pe_int set_list))
            (pss_one (ps_ret (pe_op op_modN (pe_callTy call_int1 (by rfl) T.int (by decide +kernel) (pa_cons (pv 5) pa_nil)) (pv 1)))))) pss_nil)
      (pss_cons (ps_set (i := 6) nd rfl (Or.inl rfl) (pe_op op_modN (pe_callTy call_int1 (by rfl) T.int (by decide +kernel) (pa_cons (pe_op op_pow (pe_op op_add (pe_op op_add (pe_op op_modN (pe_callTy call_int1 (by rfl) T.int (by decide +kernel) (pa_cons (pv 4) pa_nil)) pe_int) (pe_op op_mul pe_int (pv 3))) pe_int) pe_int) pa_nil)) pe_int))
      (pss_cons (ps_set (i := 6) nd rfl (Or.inl rfl) (pe_op op_modN (pe_callTy call_int1 (by rfl) T.int (by decide +kernel) (pa_cons (pe_op op_pow (pe_op op_add (pe_op op_add (pe_op op_mul (pv 6) (pe_op op_add (pe_op op_mul pe_int (pv 3)) pe_int)) (pe_op op_mul (pe_op op_mul pe_int (pv 3)) (pv 3))) pe_int) pe_int) pa_nil)) pe_int))
      (pss_one (ps_ret (pe_op op_modN (pe_callTy call_int1 (by rfl) T.int (by decide +kernel) (pa_cons (pe_op op_fdivN (pv 6) pe_int) pa_nil)) (pv 1))))))))))), ?_⟩
    -- if pen[2] > 0
    refine ⟨_, rfl, p, _, 2, .int g, rfl, rfl, SqL.of hP.p, rfl, g, 0, rfl, rfl, _, rfl, ?_⟩
    refine ite2 (fun c => ?_) (fun c => ?_)
    · refine ⟨_, rfl, p, _, 2, .int g, rfl, rfl, SqL.of hP.p, rfl, .inl ⟨g, rfl, _, rfl, g, m, rfl, rfl, by omega, ?_⟩⟩
      refine ⟨_, rfl, p, _, 2, .int g, rfl, rfl, SqL.of hP.p, rfl, .inl ⟨g, rfl, _, rfl, g, m, rfl, rfl, ⟨by omega, by omega⟩, ?_⟩⟩
      refine ⟨_, rfl, p, _, 2, 2, rfl, rfl, hP.p, rfl, ?_⟩
      refine ⟨_, rfl, k _ s (g.fdiv m) _ (fm g hm0).1 (fm g hm0).2 (Int.le_refl _) (by omega) ⟨upd_same, ?_⟩ fun b o e hb => ?_⟩
      · rw [upd_ne hP.ne.symm]
        exact hP.q
      · rw [upd_ne hb]
        exact e
    · -- spot = pen[1]; pen[1] = spot + 1; cell = ..
      refine ⟨_, rfl, p, _, 1, .int s, rfl, rfl, SqL.of hP.p, rfl, ?_⟩
      refine ⟨_, rfl, s, 1, rfl, rfl, ?_⟩
      refine ⟨_, rfl, p, _, 1, 1, rfl, rfl, hP.p, rfl, ?_⟩
      have hP1 : Pen (upd H p (.lst [.ref q, .int (s + 1), .int g])) p q ns (s + 1) g := ⟨upd_same, by rw [upd_ne hP.ne.symm]; exact hP.q⟩
      have hB1 : But p H (upd H p (.lst [.ref q, .int (s + 1), .int g])) := fun b o e hb => by rw [upd_ne hb]; exact e
      refine ⟨_, rfl, 49850, s, rfl, rfl, .inl ⟨by decide, by decide⟩, _, _, rfl, rfl, ?_⟩
      -- if pen[0] != []
      refine ⟨_, rfl, p, _, 0, .ref q, rfl, rfl, SqL.of hP1.p, rfl, by decide, fun l hl' => ?_⟩
      have hP2 : Pen (upd (upd H p (.lst [.ref q, .int (s + 1), .int g])) l (.lst [])) p q ns (s + 1) g :=
        ⟨by rw [upd_ne (ne_of_none hP1.p hl')]; exact hP1.p, by rw [upd_ne (ne_of_none hP1.q hl')]; exact hP1.q⟩
      have hB2 : But p H (upd (upd H p (.lst [.ref q, .int (s + 1), .int g])) l (.lst [])) := fun b o e hb => by
        rw [upd_ne (ne_of_none (hB1 b o e hb) hl')]
        exact hB1 b o e hb
      refine ⟨_, _, .lst (SqL.of hP2.q) (dp_ints ns), .lst (SqL.of upd_same) .nil, shaped_ints ns, rfl, _, rfl, ?_⟩
      rw [eqv_none]
      cases ns with
      | nil =>
        refine iteF ?_
        refine ⟨_, rfl, _, rfl, p, _, 0, .ref q, rfl, rfl, SqL.of hP2.p, rfl, q, _, rfl, .inl (SqL.of hP2.q), s, _, rfl, rfl, _, rfl, ?_⟩
        have e : decide (s < (((([] : List Int).map V.int).length : Nat) : Int)) = false := decide_eq_false (by show ¬ s < 0; omega)
        rw [e]
        refine iteF (iteF ?_)
        -- mixed = ..
        refine ⟨_, rfl, .inl ⟨49850 * s + 3224, rfl, ?_⟩⟩
        refine ⟨49850 * s + 3224, 2147483587, rfl, rfl, (show (2147483587 : Int) ≠ 0 by decide), ?_⟩
        refine ⟨_, rfl, 54268, s, rfl, rfl, .inl ⟨by decide, by decide⟩, ?_⟩
        refine ⟨_, _, rfl, rfl, _, _, rfl, rfl, ?_⟩
        have b1 := fm (49850 * s + 3224) (show (0 : Int) < 2147483587 by decide)
        refine ⟨_, 5, rfl, rfl, ⟨by decide, by decide, by omega⟩, .inl ⟨_, rfl, _, 2147483497, rfl, rfl, (show (2147483497 : Int) ≠ 0 by decide), ?_⟩⟩
        have b2 := fm ((Int.fmod (49850 * s + 3224) 2147483587 + 54268 * s + 822) ^ (5 : Int).toNat) (show (0 : Int) < 2147483497 by decide)
        obtain ⟨y, hy⟩ : ∃ y, y = Int.fmod ((Int.fmod (49850 * s + 3224) 2147483587 + 54268 * s + 822) ^ (5 : Int).toNat) 2147483497 := ⟨_, rfl⟩
        rw [← hy] at b2
        refine ⟨_, rfl, _, rfl, 2, s, rfl, rfl, .inl ⟨by decide, by decide⟩, _, _, rfl, rfl, y, _, congrArg V.int hy.symm, rfl, .inl ⟨by omega, by omega⟩, ?_⟩
        refine ⟨_, rfl, 54598, s, rfl, rfl, .inl ⟨by decide, by decide⟩, _, rfl, _, s, rfl, rfl, .inr ⟨by omega, by omega⟩, ?_⟩
        refine ⟨_, _, rfl, rfl, _, _, rfl, rfl, ?_⟩
        have b3 : 0 ≤ y * (2 * s + 337) ∧ y * (2 * s + 337) ≤ 2147483497 * 300000 := ⟨Int.mul_nonneg b2.1 (by omega), Int.mul_le_mul (by omega) (by omega) (by omega) (by decide)⟩
        have b4 : 0 ≤ 54598 * s * s ∧ 54598 * s * s ≤ 5459800000 * 100000 := ⟨Int.mul_nonneg (by omega) hs0, Int.mul_le_mul (by omega) (by omega) hs0 (by decide)⟩
        refine ⟨_, 3, rfl, rfl, ⟨by decide, by decide, by omega⟩, .inl ⟨_, rfl, _, 2147483579, rfl, rfl, (show (2147483579 : Int) ≠ 0 by decide), ?_⟩⟩
        refine ⟨_, rfl, _, 32, rfl, rfl, ⟨by decide, by decide⟩, .inl ⟨_, rfl, _, rfl, _, m, rfl, rfl, by omega, ?_⟩⟩
        exact k _ (s + 1) g _ (fm _ hm0).1 (fm _ hm0).2 (by omega) (Int.le_refl _) hP2 hB2
      | cons n0 r =>
        refine iteT ?_
        -- cell = pen[0][int(spot) % len(pen[0])]
        refine ⟨_, rfl, p, _, 0, .ref q, rfl, rfl, SqL.of hP2.p, rfl, ?_⟩
        refine ⟨_, rfl, .inl ⟨s, rfl, _, rfl, p, _, 0, .ref q, rfl, rfl, SqL.of hP2.p, rfl, q, _, rfl, .inl (SqL.of hP2.q), s, _, rfl, rfl, ?_, ?_⟩⟩
        · rw [List.length_map, List.length_cons]
          omega
        have hn : (0 : Int) < (((((n0 :: r) : List Int).map V.int).length : Nat) : Int) := by
          rw [List.length_map, List.length_cons]
          omega
        have b0 := fm s hn
        obtain ⟨c, hc⟩ : ∃ c : Int, atI ((n0 :: r).map V.int) (s.fmod ((((n0 :: r).map V.int).length : Nat) : Int)) = some (.int c) := by
          have hj : (s.fmod ((((n0 :: r).map V.int).length : Nat) : Int)).toNat < (n0 :: r).length := by
            rw [List.length_map] at b0 ⊢
            omega
          refine ⟨(n0 :: r)[(s.fmod ((((n0 :: r).map V.int).length : Nat) : Int)).toNat]'hj, at_of (j := (s.fmod ((((n0 :: r).map V.int).length : Nat) : Int)).toNat) (by omega) ?_⟩
          rw [List.getElem?_map, List.getElem?_eq_getElem hj]
          rfl
        refine ⟨q, _, _, .int c, rfl, rfl, SqL.of hP2.q, hc, ?_⟩
        -- if spot < len(pen[0]) and abs(cell) >= 10 ** 18
        refine ⟨_, rfl, _, rfl, p, _, 0, .ref q, rfl, rfl, SqL.of hP2.p, rfl, q, _, rfl, .inl (SqL.of hP2.q), s, _, rfl, rfl, _, rfl, ?_⟩
        refine ite2 (fun c1 => ?_) (fun c1 => iteF ?_)
        · refine ⟨_, rfl, c, rfl, 10, 18, rfl, rfl, ⟨by decide, by decide, by decide⟩, _, _, rfl, rfl, _, rfl, ?_⟩
          refine ite2 (fun c2 => ?_) (fun c2 => ?_)
          · -- great
            refine ⟨_, rfl, c, rfl, 10, 18, rfl, rfl, ⟨by decide, by decide, by decide⟩, _, _, rfl, rfl, 2, _, rfl, rfl, .inl ⟨by decide, by decide⟩, ?_⟩
            refine ⟨_, rfl, c, 0, rfl, rfl, .inr ⟨_, rfl, _, _, rfl, rfl, ?_⟩⟩
            refine ⟨_, rfl, .inl ⟨_, rfl, _, rfl, _, m, rfl, rfl, ⟨by omega, by omega⟩, ?_⟩⟩
            refine ⟨_, rfl, p, _, 2, 2, rfl, rfl, hP2.p, rfl, ?_⟩
            refine ⟨_, rfl, .inl ⟨_, rfl, _, rfl, _, m, rfl, rfl, by omega, ?_⟩⟩
            refine k _ (s + 1) _ _ (fm _ hm0).1 (fm _ hm0).2 (by omega) (Int.le_refl _) ⟨upd_same, ?_⟩ fun b o e hb => ?_
            · rw [upd_ne hP2.ne.symm]
              exact hP2.q
            · rw [upd_ne hb]
              exact hB2 b o e hb
          · show tNext _ _ _
            -- mixed = ..
            refine ⟨_, rfl, .inl ⟨c, rfl, ?_⟩⟩
            refine ⟨c, 2147483587, rfl, rfl, (show (2147483587 : Int) ≠ 0 by decide), ?_⟩
            refine ⟨_, rfl, 54268, s, rfl, rfl, .inl ⟨by decide, by decide⟩, ?_⟩
            refine ⟨_, _, rfl, rfl, _, _, rfl, rfl, ?_⟩
            have b1 := fm (c) (show (0 : Int) < 2147483587 by decide)
            refine ⟨_, 5, rfl, rfl, ⟨by decide, by decide, by omega⟩, .inl ⟨_, rfl, _, 2147483497, rfl, rfl, (show (2147483497 : Int) ≠ 0 by decide), ?_⟩⟩
            have b2 := fm ((Int.fmod (c) 2147483587 + 54268 * s + 822) ^ (5 : Int).toNat) (show (0 : Int) < 2147483497 by decide)
            obtain ⟨y, hy⟩ : ∃ y, y = Int.fmod ((Int.fmod (c) 2147483587 + 54268 * s + 822) ^ (5 : Int).toNat) 2147483497 := ⟨_, rfl⟩
            rw [← hy] at b2
            refine ⟨_, rfl, _, rfl, 2, s, rfl, rfl, .inl ⟨by decide, by decide⟩, _, _, rfl, rfl, y, _, congrArg V.int hy.symm, rfl, .inl ⟨by omega, by omega⟩, ?_⟩
            refine ⟨_, rfl, 54598, s, rfl, rfl, .inl ⟨by decide, by decide⟩, _, rfl, _, s, rfl, rfl, .inr ⟨by omega, by omega⟩, ?_⟩
            refine ⟨_, _, rfl, rfl, _, _, rfl, rfl, ?_⟩
            have b3 : 0 ≤ y * (2 * s + 337) ∧ y * (2 * s + 337) ≤ 2147483497 * 300000 := ⟨Int.mul_nonneg b2.1 (by omega), Int.mul_le_mul (by omega) (by omega) (by omega) (by decide)⟩
            have b4 : 0 ≤ 54598 * s * s ∧ 54598 * s * s ≤ 5459800000 * 100000 := ⟨Int.mul_nonneg (by omega) hs0, Int.mul_le_mul (by omega) (by omega) hs0 (by decide)⟩
            refine ⟨_, 3, rfl, rfl, ⟨by decide, by decide, by omega⟩, .inl ⟨_, rfl, _, 2147483579, rfl, rfl, (show (2147483579 : Int) ≠ 0 by decide), ?_⟩⟩
            refine ⟨_, rfl, _, 32, rfl, rfl, ⟨by decide, by decide⟩, .inl ⟨_, rfl, _, rfl, _, m, rfl, rfl, by omega, ?_⟩⟩
            exact k _ (s + 1) g _ (fm _ hm0).1 (fm _ hm0).2 (by omega) (Int.le_refl _) hP2 hB2
        · -- mixed = ..
          refine ⟨_, rfl, .inl ⟨c, rfl, ?_⟩⟩
          refine ⟨c, 2147483587, rfl, rfl, (show (2147483587 : Int) ≠ 0 by decide), ?_⟩
          refine ⟨_, rfl, 54268, s, rfl, rfl, .inl ⟨by decide, by decide⟩, ?_⟩
          refine ⟨_, _, rfl, rfl, _, _, rfl, rfl, ?_⟩
          have b1 := fm (c) (show (0 : Int) < 2147483587 by decide)
          refine ⟨_, 5, rfl, rfl, ⟨by decide, by decide, by omega⟩, .inl ⟨_, rfl, _, 2147483497, rfl, rfl, (show (2147483497 : Int) ≠ 0 by decide), ?_⟩⟩
          have b2 := fm ((Int.fmod (c) 2147483587 + 54268 * s + 822) ^ (5 : Int).toNat) (show (0 : Int) < 2147483497 by decide)
          obtain ⟨y, hy⟩ : ∃ y, y = Int.fmod ((Int.fmod (c) 2147483587 + 54268 * s + 822) ^ (5 : Int).toNat) 2147483497 := ⟨_, rfl⟩
          rw [← hy] at b2
          refine ⟨_, rfl, _, rfl, 2, s, rfl, rfl, .inl ⟨by decide, by decide⟩, _, _, rfl, rfl, y, _, congrArg V.int hy.symm, rfl, .inl ⟨by omega, by omega⟩, ?_⟩
          refine ⟨_, rfl, 54598, s, rfl, rfl, .inl ⟨by decide, by decide⟩, _, rfl, _, s, rfl, rfl, .inr ⟨by omega, by omega⟩, ?_⟩
          refine ⟨_, _, rfl, rfl, _, _, rfl, rfl, ?_⟩
          have b3 : 0 ≤ y * (2 * s + 337) ∧ y * (2 * s + 337) ≤ 2147483497 * 300000 := ⟨Int.mul_nonneg b2.1 (by omega), Int.mul_le_mul (by omega) (by omega) (by omega) (by decide)⟩
          have b4 : 0 ≤ 54598 * s * s ∧ 54598 * s * s ≤ 5459800000 * 100000 := ⟨Int.mul_nonneg (by omega) hs0, Int.mul_le_mul (by omega) (by omega) hs0 (by decide)⟩
          refine ⟨_, 3, rfl, rfl, ⟨by decide, by decide, by omega⟩, .inl ⟨_, rfl, _, 2147483579, rfl, rfl, (show (2147483579 : Int) ≠ 0 by decide), ?_⟩⟩
          refine ⟨_, rfl, _, 32, rfl, rfl, ⟨by decide, by decide⟩, .inl ⟨_, rfl, _, rfl, _, m, rfl, rfl, by omega, ?_⟩⟩
          exact k _ (s + 1) g _ (fm _ hm0).1 (fm _ hm0).2 (by omega) (Int.le_refl _) hP2 hB2
end
end K17

set_option Elab.async false
set_option linter.all false
set_option maxRecDepth 100000
set_option maxHeartbeats 4000000
/-! What the law draws: one of some things, an amount. -/
namespace K17
open PySem PySem.Spec PyProof.Rows L2
abbrev sAmount : Stmt := top 42
def spPick : Sp := fun vs H Q _ => ∃ (p q : Addr) (ns : List Int) (s g : Int) (a : Addr) (xs : List V), vs = [.ref p, .ref a] ∧ Pen H p q ns s g ∧ ns.length ≤ 63 ∧ 0 ≤ s ∧ s < 100000 ∧ H a = some (.lst xs) ∧ a ≠ p ∧ 0 < xs.length ∧ xs.length < 100000 ∧
  ∀ (v : V) (s' g' : Int) (H' : Hp), v ∈ xs → s ≤ s' → s' ≤ s + 1 → Pen H' p q ns s' g' → But p H H' → Q v H'
def spAmount : Sp := fun vs H Q _ => ∃ (p q : Addr) (ns : List Int) (s g : Int), vs = [.ref p] ∧ Pen H p q ns s g ∧ ns.length ≤ 63 ∧ 0 ≤ s ∧ s < 99990 ∧
  ∀ (i : Int) (s' g' : Int) (H' : Hp), 0 ≤ i → i ≤ 10 ^ 29 → s ≤ s' → s' ≤ s + 2 → Pen H' p q ns s' g' → But p H H' → Q (.int i) H'
theorem scPick : FnScope ["pen", "some"] ["pen", "some"] (defScope sPick) := ⟨rfl, rfl, rfl, by decide +kernel, rfl, by decide +kernel, by decide +kernel⟩
theorem scAmount : FnScope ["pen"] ["pen"] (defScope sAmount) := ⟨rfl, rfl, rfl, by decide +kernel, rfl, by decide +kernel, by decide +kernel⟩
section
variable {P : Program} {w : World} {K : PySem.W.Frag} {mg : Str → Option Value} {base : Heap} {f fD fP : Addr} {fd fdD fdP : FuncData}
theorem ok_pick (F : Fun K "_law_pick" "_law_pick" sPick f fd) (T : Blt mg) (G : FnOk P w K mg base CX0 1 fD fdD ["pen", "many"] spDraw) (b : Binds K fdD ["pen", "many"] []) (gD : mg "_law_draw" = some (.ref fD)) (kD : PySem.W.keepIn K (.ref fD) = true) :
    FnOk P w K mg base CX0 2 f fd ["pen", "some"] spPick := by
  refine F.ok scPick (fun vs H Q E h => ?_) (fun cdv A outer s H vs Q E hr h => ?_)
  · obtain ⟨p, q, ns, s, g, a, xs, rfl, _⟩ := h
    rfl
  · obtain ⟨p, q, ns, s, g, a, xs, rfl, hP, hl, h0, h1, ha, nap, x0, x1, k⟩ := h
    refine ⟨_, pss_one (ps_ret (pe_ix ix_list (pv 1) (pe_call G hr (by rfl) gD kD b .nil pass0 (pa_cons (pv 0) (pa_cons (pe_callB call_len_seq (by rfl) T.len PySem.boot_len (pa_cons (pv 1) pa_nil)) pa_nil))) (fun _ _ => rfl))), ?_⟩
    refine ⟨_, rfl, _, rfl, _, rfl, a, xs, rfl, .inl (SqL.of ha), p, q, ns, s, g, _, rfl, hP, hl, h0, h1, by omega, by omega, fun n s' g' H' n0 n1 s0 s1 hP' hB => ?_⟩
    have hj : n.toNat < xs.length := by omega
    exact ⟨a, xs, n, xs[n.toNat], rfl, rfl, SqL.of (hB a _ ha nap), at_of (j := n.toNat) (by omega) (List.getElem?_eq_getElem hj), k _ s' g' H' (List.getElem_mem hj) s0 s1 hP' hB⟩
theorem ok_amount (F : Fun K "_law_amount" "_law_amount" sAmount f fd) (GP : FnOk P w K mg base CX0 2 fP fdP ["pen", "some"] spPick) (bP : Binds K fdP ["pen", "some"] []) (gP : mg "_law_pick" = some (.ref fP)) (kP : PySem.W.keepIn K (.ref fP) = true)
    (G : FnOk P w K mg base CX0 1 fD fdD ["pen", "many"] spDraw) (b : Binds K fdD ["pen", "many"] []) (gD : mg "_law_draw" = some (.ref fD)) (kD : PySem.W.keepIn K (.ref fD) = true) : FnOk P w K mg base CX0 3 f fd ["pen"] spAmount := by
  refine F.ok scAmount (fun vs H Q E h => ?_) (fun cdv A outer s H vs Q E hr h => ?_)
  · obtain ⟨p, q, ns, s, g, rfl, _⟩ := h
    rfl
  · obtain ⟨p, q, ns, s, g, rfl, hP, hl, h0, h1, k⟩ := h
    refine ⟨_, pss_one (ps_ret (pe_call GP hr (by rfl) gP kP bP .nil pass0 (pa_cons (pv 0) (pa_cons (pe_lst (pa_cons pe_int (pa_cons pe_int (pa_cons pe_int (pa_cons pe_int (pa_cons pe_int (pa_cons (pe_op op_pow pe_int pe_int)
      (pa_cons (pe_call G (hr.mono (by decide)) (by rfl) gD kD b .nil pass0 (pa_cons (pv 0) (pa_cons pe_int pa_nil))) pa_nil)))))))) pa_nil)))), ?_⟩
    refine ⟨_, rfl, 10, 29, rfl, rfl, ⟨by decide, by decide, by decide⟩, _, rfl, p, q, ns, s, g, 50, rfl, hP, hl, h0, by omega, by decide, by decide, fun n s1 g1 H1 n0 n1 a0 a1 hP1 hB1 => ⟨by show 7 ≤ sizeLine; decide, fun l nl => ?_⟩⟩
    have lp : l ≠ p := (ne_of_none hP1.p nl).symm
    have lq : l ≠ q := (ne_of_none hP1.q nl).symm
    refine ⟨p, q, ns, s1, g1, l, _, rfl, ⟨by rw [upd_ne lp.symm]; exact hP1.p, by rw [upd_ne lq.symm]; exact hP1.q⟩, hl, by omega, by omega, upd_same, lp, by show 0 < 7; decide, by show 7 < 100000; decide, fun v s2 g2 H2 hv b0 b1 hP2 hB2 => ?_⟩
    have keep : But p H H2 := fun b o hb nb => by
      have z := hB1 b o hb nb
      exact hB2 b o (by rw [upd_ne (ne_of_none z nl)]; exact z) nb
    have fin : ∀ i : Int, 0 ≤ i → i ≤ 10 ^ 29 → Q (.int i) H2 := fun i i0 i1 => k i s2 g2 H2 i0 i1 (by omega) (by omega) hP2 keep
    simp only [List.mem_cons, List.not_mem_nil, or_false] at hv
    rcases hv with rfl | rfl | rfl | rfl | rfl | rfl | rfl
    · exact fin 0 (by decide) (by decide)
    · exact fin 0 (by decide) (by decide)
    · exact fin 1 (by decide) (by decide)
    · exact fin 2 (by decide) (by decide)
    · exact fin 3 (by decide) (by decide)
    · exact fin _ (by decide) (by decide)
    · exact fin n n0 (Int.le_trans (Int.le_of_lt n1) (by decide))
end
end K17

set_option Elab.async false
set_option linter.all false
set_option maxRecDepth 100000
set_option maxHeartbeats 4000000
/-! Words of a text, and what of them is a side's text: no Python here. -/
namespace Wd
open PySem PySem.NumText Fk
open Dg hiding numT
abbrev sp : Str := " "
/-- a text's words -/
abbrev ws (x : Str) : List Str := Txt.split x sp
abbrev tl (x : Str) : List Nat := x.cps.toList
theorem ws_spl (x : Str) : (ws x).map tl = TL.spl [32] 0 [] (tl x) := TL.split_spl x sp (by decide) (TL.kind_ok (by decide +kernel))
theorem glue (x : Str) : Txt.join sp (ws x) = x := by
  rw [TL.join_eq]
  exact StrLaws.join_split x sp
theorem cut {ps : List Str} (h : ps ≠ []) (no : ∀ p ∈ ps, 32 ∉ tl p) : ws (Txt.join sp ps) = ps := TL.split_join (y := sp) (s := 32) (S := []) rfl (by decide +kernel) h no
theorem first32 : ∀ l : List Nat, 32 ∉ l ∨ ∃ a b, l = a ++ 32 :: b ∧ 32 ∉ a
  | [] => .inl (by simp)
  | c :: l => by
    by_cases e : c = 32
    · exact .inr ⟨[], l, by rw [e]; rfl, by simp⟩
    · rcases first32 l with h | ⟨a, b, h1, h2⟩
      · exact .inl (by simp [h, Ne.symm e])
      · exact .inr ⟨c :: a, b, by rw [h1]; rfl, by simp [h2, Ne.symm e]⟩
theorem spl_facts : ∀ (n : Nat) (l : List Nat), l.length ≤ n → (TL.spl [32] 0 [] l).length = l.count 32 + 1 ∧ (∀ p ∈ TL.spl [32] 0 [] l, 32 ∉ p ∧ p.length ≤ l.length ∧ ∀ c ∈ p, c ∈ l)
  | 0, l, h => by
    have : l = [] := List.length_eq_zero_iff.mp (by omega)
    subst this
    rw [TL.spl_last1 (s := 32) (p := []) (by simp)]
    refine ⟨rfl, fun p hp => ?_⟩
    rw [List.mem_singleton] at hp
    subst hp
    exact ⟨by simp, by simp, by simp⟩
  | n + 1, l, h => by
    rcases first32 l with h0 | ⟨a, b, rfl, ha⟩
    · rw [TL.spl_last1 h0]
      refine ⟨?_, fun p hp => ?_⟩
      · rw [List.count_eq_zero.mpr h0]
        rfl
      · rw [List.mem_singleton, List.nil_append] at hp
        subst hp
        exact ⟨h0, Nat.le_refl _, fun c hc => hc⟩
    · have e : a ++ 32 :: b = a ++ ([32] ++ b) := rfl
      rw [e, TL.spl_part1 ha]
      have hb : b.length ≤ n := by
        rw [List.length_append, List.length_cons] at h
        omega
      obtain ⟨i1, i2⟩ := spl_facts n b hb
      refine ⟨?_, fun p hp => ?_⟩
      · rw [List.length_cons, i1, List.count_append, List.count_append, List.count_eq_zero.mpr ha]
        show _ = 0 + (1 + _) + 1
        omega
      · rcases List.mem_cons.mp hp with hp | hp
        · rw [List.nil_append] at hp
          subst hp
          refine ⟨ha, by rw [List.length_append]; omega, fun c hc => List.mem_append_left _ hc⟩
        · obtain ⟨j1, j2, j3⟩ := i2 p hp
          refine ⟨j1, by rw [List.length_append, List.length_append]; omega, fun c hc => List.mem_append_right _ (List.mem_append_right _ (j3 c hc))⟩
theorem ws_len (x : Str) : (ws x).length = (tl x).count 32 + 1 := by
  rw [← (spl_facts _ (tl x) (Nat.le_refl _)).1, ← ws_spl, List.length_map]
theorem ws_mem {x p : Str} (h : p ∈ ws x) : 32 ∉ tl p ∧ p.length ≤ x.length ∧ ∀ c ∈ tl p, c ∈ tl x := by
  have := (spl_facts _ (tl x) (Nat.le_refl _)).2 (tl p) (by rw [← ws_spl]; exact List.mem_map_of_mem h)
  refine ⟨this.1, ?_, this.2.2⟩
  have l := this.2.1
  rw [len_cps, len_cps] at l
  exact l
theorem ws_ne (x : Str) : ws x ≠ [] := fun h => by
  have := ws_len x
  rw [h] at this
  simp at this
/-! the kinds of words -/
/-- the word is an amount above 0, written -/
def amtB (x : Str) : Bool := (tl x).all (fun c => decide (48 ≤ c ∧ c ≤ 57)) && !(tl x).isEmpty && decide ((tl x).head? ≠ some 48)
theorem amt_plain {x : Str} (h : amtB x = true) : Plain (tl x) := by
  unfold amtB at h
  simp only [Bool.and_eq_true, List.all_eq_true, decide_eq_true_eq, Bool.not_eq_true', List.isEmpty_eq_false_iff] at h
  exact ⟨h.1.1, h.1.2, h.2⟩
theorem plain_amt {x : Str} (h : Plain (tl x)) : amtB x = true := by
  unfold amtB
  simp only [Bool.and_eq_true, List.all_eq_true, decide_eq_true_eq, Bool.not_eq_true', List.isEmpty_eq_false_iff]
  exact ⟨⟨h.dig, h.ne⟩, h.no⟩
/-- a name behind another one -/
def okN (prev x : Str) : Bool := nameB x && decide (tl prev < tl x)
/-- the first word that cannot stand, or how many there are if one lacks -/
def wr (prev : Str) (i : Nat) : List Str → Option Nat
  | [] => none
  | [x] => if okN prev x = true then some (i + 1) else some i
  | x :: a :: r => if okN prev x = true then (if amtB a = true then wr x (i + 2) r else some (i + 1)) else some i
/-- the amounts that the words tell -/
def rows : List Str → Row
  | x :: a :: r => (x, (valT a : Int)) :: rows r
  | _ => []
def wrong (l : List Str) : Option Nat := if l.head? = some ("-" : Str) then (if 1 < l.length then some 1 else none) else wr "" 0 l
/-- the row, as words -/
def wordsOf : Row → List Str
  | [] => []
  | t :: r => t.1 :: numT t.2 :: wordsOf r
theorem rows_words : ∀ {ts : Row}, (∀ t ∈ ts, 0 ≤ t.2) → rows (wordsOf ts) = ts
  | [], _ => rfl
  | (n, a) :: r, h => by
    have ih := rows_words (ts := r) fun t ht => h t (.tail _ ht)
    have h0 : 0 ≤ a := h (n, a) (.head _)
    show (n, (valT (numT a) : Int)) :: rows (wordsOf r) = _
    rw [ih, valT_num h0]
/-- rows that a text can tell -/
structure Asc (prev : Str) (ts : Row) : Prop where
  nm : ∀ t ∈ ts, nameB t.1 = true
  am : ∀ t ∈ ts, 0 < t.2
  up : (prev :: ts.map (·.1)).Pairwise fun a b => tl a < tl b
theorem wr_words : ∀ {ts : Row} {prev : Str} {i : Nat}, Asc prev ts → wr prev i (wordsOf ts) = none
  | [], _, _, _ => rfl
  | (n, a) :: r, prev, i, h => by
    have hn : nameB n = true := h.nm _ (.head _)
    have ha : 0 < a := h.am (n, a) (.head _)
    have hp : tl prev < tl n := (List.pairwise_cons.mp h.up).1 n (.head _)
    have ih : wr n (i + 2) (wordsOf r) = none := wr_words ⟨fun t ht => h.nm t (.tail _ ht), fun t ht => h.am t (.tail _ ht), (List.pairwise_cons.mp h.up).2⟩
    have k1 : okN prev n = true := by
      unfold okN
      rw [hn, decide_eq_true hp]
      rfl
    have k2 : amtB (numT a) = true := plain_amt (by
      show Plain (numT a).cps.toList
      rw [numT_cps (Int.le_of_lt ha)]
      exact dl_plain (by omega))
    show (if okN prev n = true then (if amtB (numT a) = true then wr n (i + 2) (wordsOf r) else some (i + 1)) else some i) = none
    rw [if_pos k1, if_pos k2, ih]
theorem wr_asc : ∀ {l : List Str} {prev : Str} {i : Nat}, wr prev i l = none → Asc prev (rows l) ∧ wordsOf (rows l) = l
  | [], prev, i, _ => ⟨⟨(fun t ht => nomatch ht), (fun t ht => nomatch ht), List.pairwise_singleton _ _⟩, rfl⟩
  | [x], prev, i, h => by
    exfalso
    unfold wr at h
    split at h <;> cases h
  | x :: a :: r, prev, i, h => by
    unfold wr at h
    by_cases k1 : okN prev x = true
    · rw [if_pos k1] at h
      by_cases k2 : amtB a = true
      · rw [if_pos k2] at h
        obtain ⟨⟨i1, i2, i3⟩, i4⟩ := wr_asc h
        unfold okN at k1
        rw [Bool.and_eq_true, decide_eq_true_eq] at k1
        have pl := amt_plain k2
        have vp : 0 < valT a := val_pos pl
        refine ⟨⟨fun t ht => ?_, fun t ht => ?_, ?_⟩, ?_⟩
        · rcases List.mem_cons.mp ht with rfl | ht
          · exact k1.1
          · exact i1 t ht
        · rcases List.mem_cons.mp ht with rfl | ht
          · show (0 : Int) < (valT a : Nat)
            omega
          · exact i2 t ht
        · show (prev :: x :: (rows r).map (·.1)).Pairwise _
          refine List.pairwise_cons.mpr ⟨fun b hb => ?_, i3⟩
          rcases List.mem_cons.mp hb with rfl | hb
          · exact k1.2
          · exact List.lt_trans k1.2 ((List.pairwise_cons.mp i3).1 b hb)
        · show x :: numT (valT a : Nat) :: wordsOf (rows r) = _
          rw [i4, show numT (valT a : Nat) = a from numT_val pl]
      · rw [if_neg k2] at h
        cases h
    · rw [if_neg k1] at h
      cases h
theorem rows_len : ∀ l : List Str, 2 * (rows l).length ≤ l.length
  | [] => Nat.le_refl _
  | [_] => by show 2 * 0 ≤ 1; omega
  | x :: a :: r => by
    have := rows_len r
    show 2 * ((rows r).length + 1) ≤ r.length + 1 + 1
    omega
theorem rows_mem : ∀ {l : List Str} {t : Str × Int}, t ∈ rows l → ∃ a ∈ l, t.2 = (valT a : Nat)
  | [], _, h => nomatch h
  | [_], _, h => nomatch h
  | x :: a :: r, t, h => by
    rcases List.mem_cons.mp h with rfl | h
    · exact ⟨a, .tail _ (.head _), rfl⟩
    · obtain ⟨b, hb, e⟩ := rows_mem h
      exact ⟨b, .tail _ (.tail _ hb), e⟩
/-! the whole text -/
theorem empty_app (x : Str) : Str.empty ++ x = x := Str.empty_append x
theorem line_words : ∀ {ts : Row}, ts ≠ [] → Txt.join sp (ts.map wordT) = Txt.join sp (wordsOf ts)
  | [], h => absurd rfl h
  | [t], _ => by
    rw [TL.join_eq, TL.join_eq]
    show wordT t = t.1 ++ sp ++ numT t.2
    unfold wordT
    rw [empty_app]
  | t :: u :: r, _ => by
    have ih := line_words (ts := u :: r) (by simp)
    rw [TL.join_eq, TL.join_eq] at ih ⊢
    show wordT t ++ sp ++ Str.join sp ((u :: r).map wordT) = t.1 ++ sp ++ (numT t.2 ++ sp ++ Str.join sp (wordsOf (u :: r)))
    rw [ih]
    unfold wordT
    rw [empty_app]
    refine Dg.ext ?_
    simp only [app_cps, List.append_assoc]
theorem lineT_words {ts : Row} (h : ts ≠ []) : lineT ts = Txt.join sp (wordsOf ts) := by
  unfold lineT
  rw [if_neg (by simpa using h), line_words h]
theorem words_no {ts : Row} (hn : ∀ t ∈ ts, nameB t.1 = true) (ha : ∀ t ∈ ts, 0 ≤ t.2) : ∀ p ∈ wordsOf ts, 32 ∉ tl p := by
  induction ts with
  | nil => intro p hp; cases hp
  | cons t r ih =>
    intro p hp
    rcases List.mem_cons.mp hp with rfl | hp
    · have := hn t (.head _)
      intro h32
      unfold nameB at this
      simp only [Bool.and_eq_true] at this
      have h2 := this.1.2
      unfold Txt.isalpha at h2
      rw [Bool.and_eq_true] at h2
      have h3 := h2.2
      rw [← Array.all_toList, List.all_eq_true] at h3
      have := h3 32 h32
      revert this
      decide +kernel
    · rcases List.mem_cons.mp hp with rfl | hp
      · intro h32
        have h0 := ha t (.head _)
        have := dl_digits t.2.toNat 32 (by rw [← numT_cps h0]; exact h32)
        omega
      · exact ih (fun u hu => hn u (.tail _ hu)) (fun u hu => ha u (.tail _ hu)) p hp
theorem words_ne {ts : Row} (h : ts ≠ []) : wordsOf ts ≠ [] := by
  cases ts with
  | nil => exact absurd rfl h
  | cons t r => exact fun z => nomatch z
theorem dash_name : nameB "-" = false := by decide +kernel
/-- what a side's text is read as -/
def readR (l : List Str) : Row := if l.head? = some ("-" : Str) then [] else rows l
theorem wrong_line {ts : Row} (h : Asc "" ts) : wrong (ws (lineT ts)) = none ∧ readR (ws (lineT ts)) = ts := by
  by_cases e : ts = []
  · subst e
    have : ws (lineT []) = [("-" : Str)] := cut (ps := [("-" : Str)]) (by simp) (by decide +kernel)
    rw [this]
    exact ⟨rfl, rfl⟩
  · have nn : ∀ t ∈ ts, 0 ≤ t.2 := fun t ht => Int.le_of_lt (h.am t ht)
    have ew : ws (lineT ts) = wordsOf ts := by
      rw [lineT_words e]
      exact cut (words_ne e) (words_no h.nm nn)
    have hd : ¬ (wordsOf ts).head? = some ("-" : Str) := by
      cases ts with
      | nil => exact absurd rfl e
      | cons t r =>
        intro z
        have : t.1 = "-" := Option.some.inj z
        have n := h.nm t (.head _)
        rw [this, dash_name] at n
        cases n
    rw [ew]
    unfold wrong readR
    rw [if_neg hd, if_neg hd]
    exact ⟨wr_words h, rows_words nn⟩
theorem line_wrong {x : Str} (h : wrong (ws x) = none) : Asc "" (readR (ws x)) ∧ lineT (readR (ws x)) = x := by
  unfold wrong at h
  unfold readR
  by_cases hd : (ws x).head? = some ("-" : Str)
  · rw [if_pos hd] at h ⊢
    refine ⟨⟨(fun t ht => nomatch ht), (fun t ht => nomatch ht), List.pairwise_singleton _ _⟩, ?_⟩
    have l1 : ¬ 1 < (ws x).length := fun z => by
      rw [if_pos z] at h
      cases h
    have : ws x = [("-" : Str)] := by
      cases hw : ws x with
      | nil => exact absurd hw (ws_ne x)
      | cons a r =>
        rw [hw] at hd l1
        have : r = [] := List.length_eq_zero_iff.mp (by rw [List.length_cons] at l1; omega)
        rw [this, Option.some.inj hd]
    have g := glue x
    rw [this] at g
    exact g
  · rw [if_neg hd] at h ⊢
    obtain ⟨a1, a2⟩ := wr_asc h
    have ne : rows (ws x) ≠ [] := fun z => by
      rw [z] at a2
      exact ws_ne x a2.symm
    refine ⟨a1, ?_⟩
    rw [lineT_words ne, a2]
    exact glue x
end Wd

set_option Elab.async false
set_option linter.all false
set_option maxRecDepth 100000
set_option maxHeartbeats 4000000
/-! number_of, is_number_text. -/
namespace Wd
open PySem PySem.NumText PySem.Spec PyProof.Rows L2 Fk
open Dg hiding numT
abbrev sNumOf : Stmt := top 22
abbrev sIsNum : Stmt := top 23
def spNumOf : Sp := fun vs H Q _ => ∃ x : Str, vs = [.str x] ∧ AllDigits (tl x) ∧ x.length ≤ 10000 ∧ Q (.int (valT x : Nat)) H
/-- a word that is a number's text -/
def numB (x : Str) : Bool := Txt.isascii x && Txt.isdigit x && (decide (x = "0") || decide ((tl x).head? ≠ some 48))
def spIsNum : Sp := fun vs H Q _ => ∃ x : Str, vs = [.str x] ∧ x.length ≤ 10000 ∧ Q (.bl (numB x)) H
theorem scNumOf : FnScope ["word", "number", "head", "at"] ["word"] (defScope sNumOf) := ⟨rfl, rfl, rfl, by decide +kernel, rfl, by decide +kernel, by decide +kernel⟩
theorem scIsNum : FnScope ["word"] ["word"] (defScope sIsNum) := ⟨rfl, rfl, rfl, by decide +kernel, rfl, by decide +kernel, by decide +kernel⟩
theorem digit_chars {x : Str} (h : (Txt.isascii x && Txt.isdigit x) = true) : AllDigits (tl x) ∧ tl x ≠ [] := by
  unfold Txt.isascii Txt.isdigit at h
  simp only [Bool.and_eq_true, decide_eq_true_eq, ← Array.all_toList, List.all_eq_true] at h
  obtain ⟨h1, h2, h3⟩ := h
  refine ⟨fun c hc => ?_, fun e => ?_⟩
  · have dg : ∀ c, c < 128 → Unicode.isDigit c = true → 48 ≤ c ∧ c ≤ 57 := by decide +kernel
    exact dg c (h1 c hc) (h3 c hc)
  · rw [← len_cps] at h2
    have : (tl x).length > 0 := h2
    rw [e] at this
    exact absurd this (by decide)
theorem chars_digit {x : Str} (h : AllDigits (tl x)) (ne : tl x ≠ []) : (Txt.isascii x && Txt.isdigit x) = true := by
  unfold Txt.isascii Txt.isdigit
  simp only [Bool.and_eq_true, decide_eq_true_eq, ← Array.all_toList, List.all_eq_true]
  refine ⟨fun c hc => ?_, ?_, fun c hc => ?_⟩
  · have := h c hc
    omega
  · rw [← len_cps]
    exact List.length_pos_iff.mpr ne
  · have hc := h c hc
    have : ∀ c, c < 128 → 48 ≤ c → c ≤ 57 → Unicode.isDigit c = true := by decide +kernel
    exact this c (by omega) hc.1 hc.2
/-- an amount above 0: just the number's texts with a number above 0 -/
theorem amt_num (x : Str) : (numB x && decide (1 ≤ valT x)) = amtB x := by
  unfold numB
  cases hd : Txt.isascii x && Txt.isdigit x with
  | false =>
    cases ha : amtB x with
    | false => rfl
    | true =>
      have p := amt_plain ha
      rw [chars_digit p.dig p.ne] at hd
      cases hd
  | true =>
    obtain ⟨h1, h2⟩ := digit_chars hd
    rw [Bool.true_and]
    by_cases e : (tl x).head? = some 48
    · have ha : amtB x = false := by
        cases ha : amtB x with
        | false => rfl
        | true => exact absurd e (amt_plain ha).no
      rw [ha, Bool.and_eq_false_iff]
      by_cases e0 : x = "0"
      · right
        rw [e0]
        decide +kernel
      · left
        rw [decide_eq_false e0, decide_eq_false (fun z => z e)]
        rfl
    · have p : Plain (tl x) := ⟨h1, h2, e⟩
      rw [plain_amt p, decide_eq_true e, Bool.or_true, Bool.true_and]
      exact decide_eq_true (val_pos p)
theorem int_cut {x : Str} (h : AllDigits (tl x)) {lo n : Nat} (hn : 0 < n) (hl : lo + n ≤ x.length) (z : Str) (hz : tl z = ((tl x).drop lo).take n) (n64 : n ≤ 64) : PySem.intText? z = some ((digitsVal (((tl x).drop lo).take n) : Nat) : Int) ∧ z.length ≤ 640 := by
  have lz : z.length = n := by
    rw [← len_cps]
    show (tl z).length = n
    rw [hz, List.length_take, List.length_drop, len_cps]
    omega
  have az : AllDigits (tl z) := by
    rw [hz]
    exact fun c hc => h c (List.mem_of_mem_drop (List.mem_of_mem_take hc))
  refine ⟨?_, by omega⟩
  rw [← hz]
  exact intText_digits az (fun e => by
    have : z.cps.toList.length = 0 := by rw [e]; rfl
    rw [len_cps] at this
    omega) (by omega)
theorem step_size {a b : Nat} (h : b < 2 ^ 60) (k : Nat) (hk : b = a + 64 * k) : RgC (a : Int) (b : Int) 64 k := by
  have e : Builtin.Range.rangeSize (a : Int) (b : Int) 64 = k := by
    unfold Builtin.Range.rangeSize
    rw [if_pos (by decide)]
    by_cases c : (a : Int) < b
    · rw [if_pos c]
      omega
    · rw [if_neg c]
      omega
  have p60 : (2 : Int) ^ 60 = 1152921504606846976 := by decide
  have p63 : (2 : Int) ^ 63 = 9223372036854775808 := by decide
  have n60 : (2 : Nat) ^ 60 = 1152921504606846976 := by decide
  have ft : ∀ z : Int, -(1152921504606846976) ≤ z → z ≤ 1152921504606846976 + 128 → Builtin.Range.rangeFitsLong z = true := fun z h1 h2 => by
    unfold Builtin.Range.rangeFitsLong
    rw [p63, decide_eq_true (show -9223372036854775808 ≤ z by omega), decide_eq_true (show z < 9223372036854775808 by omega)]
    rfl
  refine ⟨by decide, by decide, ?_, e⟩
  unfold Builtin.Range.small
  rw [e]
  rw [ft _ (by omega) (by omega), ft _ (by omega) (by omega), ft 64 (by omega) (by omega), ft _ (by omega) (by omega), if_pos (by decide), ft _ (by omega) (by omega)]
  simp
theorem val_bits {cs : List Nat} (h : AllDigits cs) (hl : cs.length ≤ 10000) : ((digitsVal cs : Nat) : Int).natAbs < 2 ^ 40000 := by
  have h1 := val_lt h
  have h2 : 10 ^ cs.length ≤ 16 ^ cs.length := Nat.pow_le_pow_left (by decide) _
  have h3 : 16 ^ cs.length = 2 ^ (4 * cs.length) := by rw [Nat.pow_mul]
  have h4 : 2 ^ (4 * cs.length) ≤ 2 ^ 40000 := Nat.pow_le_pow_right (by decide) (by omega)
  rw [Int.natAbs_natCast]
  exact Nat.lt_of_lt_of_le h1 (Nat.le_trans h2 (by rw [h3]; exact h4))
theorem cut_tl (x : Str) (lo hi : Nat) (h : lo ≤ hi) (hl : hi ≤ x.length) : tl (cutS x (some (lo : Int)) (some (hi : Int))) = ((tl x).drop lo).take (hi - lo) := by
  show ((x.cps.toList.drop (HT.sIx x.length 0 (some (lo : Int)))).take (HT.sIx x.length x.length (some (hi : Int)) - HT.sIx x.length 0 (some (lo : Int)))).toArray.toList = _
  rw [HT.sIx_nat, HT.sIx_nat, Nat.min_eq_left (Nat.le_trans h hl), Nat.min_eq_left hl]
theorem cut_tl0 (x : Str) (hi : Nat) (hl : hi ≤ x.length) : tl (cutS x none (some (hi : Int))) = ((tl x).drop 0).take hi := by
  show ((x.cps.toList.drop 0).take (HT.sIx x.length x.length (some (hi : Int)) - 0)).toArray.toList = _
  rw [HT.sIx_nat, Nat.min_eq_left hl]
  rfl
section
variable {P : Program} {w : World} {K : PySem.W.Frag} {mg : Str → Option Value} {base : Heap} {f : Addr} {fd : FuncData}
theorem ok_isNum (F : Fun K "is_number_text" "is_number_text" sIsNum f fd) : FnOk P w K mg base CX0 1 f fd ["word"] spIsNum := by
  refine F.ok scIsNum (fun vs H Q E h => ?_) (fun cdv A outer s H vs Q E hr h => ?_)
  · obtain ⟨x, rfl, _⟩ := h
    rfl
  · obtain ⟨x, rfl, hl, q⟩ := h
    refine ⟨_, pss_one (ps_ret (pe_and (pe_bm0 PySem.F.plainAttrs_str PySem.F.slot_str_isascii PySem.F.type_str_isascii mt_isascii (pv 0)) (pe_and (pe_bm0 PySem.F.plainAttrs_str PySem.F.slot_str_isdigit PySem.F.type_str_isdigit mt_isdigit (pv 0))
      (pe_one (pe_or (pe_cmpR op_eq (pv 0) pe_str (nomark _)) (pe_one (pe_cmpR op_ne (pe_item_str (pv 0) pe_int (fun _ _ => rfl)) pe_str (nomark _)))))))), ?_⟩
    refine ⟨_, rfl, rfl, x, rfl, rfl, trivial, _, rfl, ?_⟩
    cases h1 : Txt.isascii x with
    | false =>
      have e : numB x = false := by unfold numB; rw [h1]; rfl
      rw [e] at q
      exact q
    | true =>
      refine ⟨_, rfl, rfl, x, rfl, rfl, trivial, _, rfl, ?_⟩
      cases h2 : Txt.isdigit x with
      | false =>
        have e : numB x = false := by unfold numB; rw [h1, h2]; rfl
        rw [e] at q
        exact q
      | true =>
        obtain ⟨d1, d2⟩ := digit_chars (x := x) (by rw [h1, h2]; rfl)
        have e : numB x = (decide (x = "0") || decide ((tl x).head? ≠ some 48)) := by unfold numB; rw [h1, h2]; rfl
        rw [e] at q
        refine ⟨_, rfl, rfl, _, rfl, ?_⟩
        have ds : decide (V.str x = V.str "0") = decide (x = "0") := by
          by_cases c : x = "0"
          · rw [decide_eq_true c, decide_eq_true (by rw [c])]
          · rw [decide_eq_false c, decide_eq_false (fun z => c (V.str.inj z))]
        rw [ds]
        cases h0 : decide (x = "0") with
        | true =>
          rw [h0] at q
          exact q
        | false =>
          rw [h0, Bool.false_or] at q
          cases hx : tl x with
          | nil => exact absurd hx d2
          | cons c r =>
            have hs : 0 < x.length := by
              rw [← len_cps]
              show 0 < (tl x).length
              rw [hx]
              exact Nat.succ_pos _
            refine ⟨_, rfl, x, 0, c, rfl, rfl, Int.le_refl _, by decide, by omega, ?_, rfl, ?_⟩
            · rw [← Array.getElem?_toList]
              show (tl x)[0]? = some c
              rw [hx]
              rfl
            · have : (!decide (V.str ⟨#[c]⟩ = V.str "0")) = decide ((tl x).head? ≠ some 48) := by
                rw [hx]
                show (!decide (V.str ⟨#[c]⟩ = V.str "0")) = decide (some c ≠ some 48)
                by_cases e : c = 48
                · subst e
                  rfl
                · rw [decide_eq_true (show some c ≠ some 48 from fun z => e (Option.some.inj z))]
                  rw [decide_eq_false]
                  · rfl
                  · intro z
                    have z1 : (⟨#[c]⟩ : Str) = "0" := V.str.inj z
                    have z2 : (#[c] : Array Nat).toList = [48] := congrArg (fun y : Str => y.cps.toList) z1
                    exact e (List.cons.inj z2).1
              rw [this]
              exact q
theorem take_more {x : Str} {lo n : Nat} : (tl x).take (lo + n) = (tl x).take lo ++ ((tl x).drop lo).take n := List.take_add
theorem ok_numOf {tK : Tok} (F : Fun K "number_of" "number_of" sNumOf f fd) (T : Fk.Blt mg) (hR : mg "range" = none) (gC : mg "CHUNK" = some (.int 64 tK)) : FnOk P w K mg base CX0 1 f fd ["word"] spNumOf := by
  have nd := scNumOf.nd
  refine F.ok scNumOf (fun vs H Q E h => ?_) (fun cdv A outer s H vs Q E hr h => ?_)
  · obtain ⟨x, rfl, _⟩ := h
    rfl
  · obtain ⟨x, rfl, hd, hl, q⟩ := h
    refine ⟨_, pss_cons (ps_set (i := 1) nd rfl (Or.inl rfl) pe_int) (pss_cons (ps_set (i := 2) nd rfl (Or.inl rfl) (pe_op op_modN (pe_callB call_len_str (by rfl) T.len PySem.boot_len (pa_cons (pv 0) pa_nil)) (pe_glob (v := .int 64) (by rfl) gC ⟨_, rfl⟩)))
      (pss_cons (ps_if (pt_cmpR op_gt (pv 2) pe_int (nomark _)) (pss_one (ps_set (i := 1) nd rfl (Or.inl rfl) (pe_callTy call_int_str (by rfl) T.int (by decide +kernel) (pa_cons (pe_slice sl_str (pv 0) po_none (po_some (pv 2))) pa_nil)))) pss_nil)
      (pss_cons (ps_for PassesOwn.never rfl (pi_range3 rfl hR (pa_cons (pv 2) (pa_cons (pe_callB call_len_str (by rfl) T.len PySem.boot_len (pa_cons (pv 0) pa_nil)) (pa_cons (pe_glob (v := .int 64) (by rfl) gC ⟨_, rfl⟩) pa_nil)))) (pg_name (i := 3) nd rfl (Or.inl rfl))
        (pss_one (ps_set (i := 1) nd rfl (Or.inl rfl) (pe_op op_add (pe_op op_mulW (pv 1) (pe_op op_pow pe_int pe_int)) (pe_callTy call_int_str (by rfl) T.int (by decide +kernel) (pa_cons (pe_slice sl_str (pv 0) (po_some (pv 3)) (po_some (pe_op op_add (pv 3) (pe_glob (v := .int 64) (by rfl) gC ⟨_, rfl⟩)))) pa_nil))))))
      (pss_one (ps_ret (pv 1)))))), ?_⟩
    generalize hL : x.length = L at *
    have eL : L = L % 64 + 64 * (L / 64) := by omega
    have len0 : (tl x).length = L := by
      show x.cps.toList.length = L
      rw [len_cps, hL]
    have lz : L ≤ sizeLine := by
      rw [sizeLine_eq]
      omega
    have fm : Int.fmod ((L : Nat) : Int) 64 = ((L % 64 : Nat) : Int) := by
      rw [Int.fmod_eq_emod_of_nonneg _ (by decide)]
      rfl
    refine ⟨_, rfl, x, rfl, by rw [hL]; exact lz, _, _, rfl, rfl, (show (64 : Int) ≠ 0 by decide), ?_⟩
    dsimp only
    rw [hL, fm]
    refine ⟨_, rfl, _, _, rfl, rfl, _, rfl, ?_⟩
    have loop : ∀ y : Option V, y = some (.int (digitsVal ((tl x).take (L % 64)) : Nat)) → tSeq (tFor (iRng3 (tCons (tVar 2) (tCons (tCB (fun xs H Q => ∃ a : Str, xs = [.str a] ∧ a.length ≤ sizeLine ∧ Q (.int (a.length : Nat)) H) (tCons (tVar 0) tNil)) (tCons (tC (.int 64)) tNil)))) (gName 3)
        (tAsg (tOp (rI0 fun i j => .int (i + j)) (tOp (rI CMulW fun i j => .int (i * j)) (tVar 1) (tOp (rI CPow fun i j => .int (i ^ j.toNat)) (tC (.int 10)) (tC (.int 64)))) (tCB (fun xs H Q => ∃ a n, xs = [.str a] ∧ PySem.intText? a = some n ∧ a.length ≤ 640 ∧ Q (.int n) H) (tCons (tSl rSlS (tVar 0) (tPart (tVar 3)) (tPart (tOp (rI0 fun i j => .int (i + j)) (tVar 3) (tC (.int 64))))) tNil))) (gName 1)))
        (tRet (tVar 1)) { nx := fun _ H' => Q .non H', rt := Q } [some (.str x), y, some (.int ((L % 64 : Nat) : Int)), none] H := by
      rintro y rfl
      refine ⟨_, rfl, _, rfl, x, rfl, by rw [hL]; exact lz, _, _, _, (L / 64), rfl, step_size (by rw [hL]; exact Nat.lt_of_le_of_lt hl (by decide)) (L / 64) (by rw [hL]; exact eL), for_rangeC (n := L / 64) (fun i σ H' => H' = H ∧ ∃ o, σ = [some (.str x), some (.int (digitsVal ((tl x).take (L % 64 + 64 * i)) : Nat)), some (.int ((L % 64 : Nat) : Int)), o]) ⟨rfl, _, rfl⟩ (fun i σ H' hi h => ?_) (fun σ H' h => ?_)⟩
      · obtain ⟨rfl, o, rfl⟩ := h
        have e1 : (((L % 64 : Nat) : Int) + ((i : Nat) : Int) * 64) = ((L % 64 + 64 * i : Nat) : Int) := by omega
        have hb : L % 64 + 64 * i + 64 ≤ L := by omega
        obtain ⟨c1, c2⟩ := int_cut hd (lo := L % 64 + 64 * i) (n := 64) (by decide) (by omega) (cutS x (some ((L % 64 + 64 * i : Nat) : Int)) (some ((L % 64 + 64 * i + 64 : Nat) : Int))) (by rw [cut_tl x _ _ (by omega) (by omega), show L % 64 + 64 * i + 64 - (L % 64 + 64 * i) = 64 by omega]) (Nat.le_refl _)
        rw [e1]
        refine ⟨_, rfl, 10, 64, rfl, rfl, ⟨by decide, by decide, by decide⟩, _, _, rfl, rfl, ?_, ?_⟩
        · refine wide_mul (a := 40000) (b := 213) (val_bits (fun c hc => hd c (List.mem_of_mem_take hc)) (by rw [List.length_take]; omega)) (by decide) (by decide) (by decide) (by decide)
        · refine ⟨_, rfl, _, rfl, _, rfl, _, rfl, _, _, rfl, rfl, _, rfl, x, rfl, by rw [hL]; exact lz, _, _, rfl, c1, c2, _, _, rfl, rfl, rfl, some (.int ((L % 64 + 64 * i : Nat) : Int)), ?_⟩
          have e2 : (tl x).take (L % 64 + 64 * (i + 1)) = (tl x).take (L % 64 + 64 * i) ++ ((tl x).drop (L % 64 + 64 * i)).take 64 := by
            rw [show L % 64 + 64 * (i + 1) = L % 64 + 64 * i + 64 by omega]
            exact take_more
          have e3 : digitsVal ((tl x).take (L % 64 + 64 * (i + 1))) = digitsVal ((tl x).take (L % 64 + 64 * i)) * 10 ^ 64 + digitsVal (((tl x).drop (L % 64 + 64 * i)).take 64) := by
            rw [e2, val_app, List.length_take, List.length_drop, len0, Nat.min_eq_left (by omega)]
          have ec : ((digitsVal ((tl x).take (L % 64 + 64 * i)) : Nat) : Int) * (10 : Int) ^ (64 : Int).toNat + ((digitsVal (((tl x).drop (L % 64 + 64 * i)).take 64) : Nat) : Int) = ((digitsVal ((tl x).take (L % 64 + 64 * i)) * 10 ^ 64 + digitsVal (((tl x).drop (L % 64 + 64 * i)).take 64) : Nat) : Int) := by
            rw [Int.natCast_add, Int.natCast_mul]
            rfl
          rw [e3, ← ec]
          rfl
      · obtain ⟨rfl, o, rfl⟩ := h
        have : (tl x).take (L % 64 + 64 * (L / 64)) = tl x := by
          rw [← eL, ← len0, List.take_length]
        rw [this]
        exact ⟨_, rfl, q⟩
    refine ite2 (fun c => ?_) (fun c => ?_)
    · obtain ⟨c1, c2⟩ := int_cut hd (lo := 0) (n := L % 64) (by have := of_decide_eq_true c; omega) (by omega) (cutS x none (some ((L % 64 : Nat) : Int))) (cut_tl0 x _ (by omega)) (by omega)
      refine ⟨_, rfl, _, rfl, _, rfl, x, rfl, by rw [hL]; exact lz, _, _, rfl, c1, c2, ?_⟩
      exact loop _ rfl
    · refine loop _ ?_
      have : L % 64 = 0 := by
        have : ¬ ((0 : Int) < ((L % 64 : Nat) : Int)) := fun z => c (decide_eq_true z)
        omega
      rw [this]
      rfl
end
end Wd

set_option Elab.async false
set_option linter.all false
set_option maxRecDepth 100000
set_option maxHeartbeats 4000000
/-! try: .. except X as error: caught = error: the exception is held by a name behind the try. -/
namespace L2
open PySem PySem.Spec PyProof.Rows
/-- at a: an exception that was caught; its class, its dict -/
def ExK (cls : Value) (d : Option Addr) (a : Addr) : HO := .ext fun h => ∃ (oe : Obj) (vs : Array Value), h.get? a = some oe ∧ Zc cls d oe ∧ oe.data = .fields vs
theorem exK_ok {P : Program} {w : World} {H : Hp} {h : Heap} {a : Addr} {cls : Value} {d : Option Addr} {oe : Obj} {vs : Array Value} (e : h.get? a = some oe) (z : Zc cls d oe) (k : oe.data = .fields vs) : ObjOk P w H h a (ExK cls d a) :=
  ⟨⟨oe, vs, e, z, k⟩, ⟨oe, e⟩, fun _ _ ⟨o, v, q, r⟩ k => ⟨o, v, k o q, r⟩⟩
theorem exK_at {P : Program} {w : World} {H : Hp} {h : Heap} {a : Addr} {cls : Value} {d : Option Addr} (hok : HOk P w H h) (e : H a = some (ExK cls d a)) : ∃ (oe : Obj) (vs : Array Value), h.get? a = some oe ∧ Zc cls d oe ∧ oe.data = .fields vs := by
  have x : ObjOk P w H h a (.ext fun h => ∃ (oe : Obj) (vs : Array Value), h.get? a = some oe ∧ Zc cls d oe ∧ oe.data = .fields vs) := hok a _ e
  exact x.1
section
variable {X : Cx} {pins : List (Addr × Obj)} {σ : St} {H : Hp} {s : Shared}
/-- a pinned exception, new since the entry, is tracked from now on -/
theorem Inv.track {a : Addr} {oe : Obj} {vs : Array Value} {cls : Value} {d : Option Addr} (J : Inv X ((a, oe) :: pins) σ H s) (h0 : X.s_0.heap.get? a = none) (hp : ∀ p ∈ X.pn ++ pins, p.1 ≠ a) (z : Zc cls d oe) (hd : oe.data = .fields vs) :
    Inv X pins σ (upd H a (ExK cls d a)) s := by
  obtain ⟨ha, na, nL, nF, nc⟩ := J.pin (a, oe) (List.mem_append_right _ List.mem_cons_self)
  have n0 : ∀ b o, X.s_0.heap.get? b = some o → b ≠ a := fun b o e q => by
    rw [q, h0] at e
    cases e
  refine ⟨J.ok, J.os, J.bare, ⟨J.base.keep, J.base.slot, fun b o e n hx => ?_, J.base.there, fun b xs e => ?_, fun b o u e => ?_, fun b ps e => ?_⟩, J.loc, J.cell, ?_, fun x c e => ?_, fun p h => ?_, J.hok.laidN (fun _ _ q => q) na (exK_ok ha z hd), J.len⟩
  · rw [upd_ne (n0 b o e)]
    exact J.base.free b o e n hx
  · have q := J.base.tups b xs e
    rw [upd_ne (ne_of_none q na)]
    exact q
  · have q := J.base.frzs b o u e
    rw [upd_ne (ne_of_none q na)]
    exact q
  · obtain ⟨more, q⟩ := J.base.tbls b ps e
    exact ⟨more, by rw [upd_ne (ne_of_none q na)]; exact q⟩
  · rw [upd_ne nL.symm]
    exact J.free
  · have ne : c ≠ a := by
      rintro rfl
      obtain ⟨v, hv⟩ := J.cell x _ e
      obtain ⟨o, ho, hdv⟩ := hv
      rw [ha] at ho
      cases ho
      exact nc _ hdv
    rw [upd_ne ne]
    exact J.freeC x c e
  · have hm : p ∈ X.pn ++ (a, oe) :: pins := by
      rcases List.mem_append.mp h with h | h
      · exact List.mem_append_left _ h
      · exact List.mem_append_right _ (List.mem_cons_of_mem _ h)
    obtain ⟨e1, e2, e3⟩ := J.pin p hm
    exact ⟨e1, by rw [upd_ne (hp p h)]; exact e2, e3⟩
theorem Inv.suitePin {a : Addr} {q : Addr × Obj} (I : Inv (X.suite a (q :: (X.pn ++ pins))) [] σ H s) (ok : X.Ok) : Inv X (q :: pins) σ H s :=
  ⟨ok, I.os, I.bare, I.base, I.loc, I.cell, I.free, I.freeC, fun p hp => I.pin p (by
    rw [List.append_nil]
    show p ∈ q :: (X.pn ++ pins)
    rcases List.mem_append.mp hp with h | h
    · exact List.mem_cons_of_mem _ (List.mem_append_left _ h)
    · rcases List.mem_cons.mp h with h | h
      · rw [h]
        exact List.mem_cons_self
      · exact List.mem_cons_of_mem _ (List.mem_append_right _ h)), I.hok, I.len⟩
end
/-- an exception that has landed in this frame: it is new since the entry, apart from all that is pinned -/
structure Landed (X : Cx) (pins : List (Addr × Obj)) (σ : St) (H : Hp) (a : Addr) (cls : Value) (d : Option Addr) (s : Shared) : Prop where
  inv : Inv X pins σ H s
  new0 : X.s_0.heap.get? a = none
  npin : ∀ p ∈ X.pn ++ pins, p.1 ≠ a
  nL : a ≠ X.env.locals
  nF : a ∉ X.fs
  obj : ∃ oe vs, s.heap.get? a = some oe ∧ Zc cls d oe ∧ oe.data = .fields vs
section
variable {X : Cx} {pins : List (Addr × Obj)} {σ : St} {H : Hp} {sI s' : Shared} {B h : Heap} {a : Addr} {cls : Value} {d : Option Addr}
theorem landed_of (hs : X.stack = X.env :: X.outer) (hf : X.env.frame = some X.env.locals) (hx : X.ex = []) (J : Inv X pins σ H sI) (nb : ∀ b o, sI.heap.get? b = some o → b ∉ frs X.stack → B.get? b = some o)
    (os : s'.os = sI.os) (ag : AllBare s'.gens) (fl : HandSPX.FlyingZ B (X.env :: X.outer) a (Zc cls d) h) (up : sI.heap.UpToSlots h) : Landed X pins σ H a cls d { s' with heap := h } := by
  have ob := fl.there
  obtain ⟨oe, vs, he, _, hd⟩ := id ob
  -- no frame is a record of fields
  have nfr : a ∉ frs (X.env :: X.outer) := fun hm => by
    obtain ⟨_, o, e, k⟩ := fl.2.2.1.mem hm
    cases he.symm.trans e
    exact k _ hd
  have nI : ∀ o, sI.heap.get? a ≠ some o := fun o e => by
    have z := (nb a o e (by rw [hs]; exact nfr)).symm.trans fl.2.1
    cases z
  refine ⟨J.landed (s' := { s' with heap := h }) nb fl.1 up os ag, ?_, fun p hp q => nI p.2 (by rw [← q]; exact (J.pin p hp).1), ?_, ?_, ob⟩
  · cases e : X.s_0.heap.get? a with
    | none => rfl
    | some o =>
      obtain ⟨o', z⟩ := J.base.there a o e (by rw [hx]; exact List.not_mem_nil)
      exact absurd z (nI o')
  · rintro rfl
    exact nfr (List.mem_filterMap.mpr ⟨X.env, .head _, hf⟩)
  · intro hm
    obtain ⟨e, he, q⟩ := List.mem_filterMap.mp hm
    exact nfr (List.mem_filterMap.mpr ⟨e, .tail _ he, q⟩)
theorem Landed.suite (L : Landed X pins σ H a cls d s') (na : H a = none) : ∃ oe vs, Zc cls d oe ∧ oe.data = .fields vs ∧ Inv (X.suite a ((a, oe) :: (X.pn ++ pins))) [] σ H s' := by
  obtain ⟨oe, vs, he, hz, hd⟩ := L.obj
  exact ⟨oe, vs, hz, hd, L.inv.suite he hd na L.nL L.nF⟩
end
/-- what the clause wishes: the exception is one of its class; slot i is its name in the suite, slot j the name that keeps it -/
def wKeep (K : PySem.W.Frag) (c : Value) (i j : Nat) (D : Ends) : WX := fun cls d σ H =>
  PySem.W.exmOne K cls c = some true ∧ ∀ a, H a = none → D.nx (((σ.set i (some (.ref a))).set j (some (.ref a))).set i none) (upd H a (ExK cls d a))
section
variable {X : Cx} {x n : Str} {c : Value} {i j : Nat} {body suite : List Stmt} {b₀ : Stmt} {np pos pos' : Pos} {tb : WX → TS}
theorem ps_try_keep (hs : X.stack = X.env :: X.outer) (hf : X.env.frame = some X.env.locals) (hx : X.ex = []) (hN : X.N.Nodup) (hi : X.N[i]? = some n) (hln : X.env.kindOf n = some .local) (hc : Names X x c)
    (hb : ∀ (W : WX) (pn : List (Addr × Obj)) (xe : Value → Shared → Prop), Takes (X.tr pn xe) W → PSs (X.tr pn xe) body (tb W))
    (hsu : ∀ (a : Addr) (oe : Obj) (pn : List (Addr × Obj)), PSs (X.suite a ((a, oe) :: pn)) (b₀ :: suite) (tAsg (tVar i) (gName j))) :
    PS X (.Try body [.ExceptHandler (some (.Name x np)) (some n) (b₀ :: suite) pos'] [] [] pos) (fun D σ H => tb (wKeep X.K c i j D) D σ H) :=
  ⟨fun pins s σ H D I h => wpAny_Try_except (by
    refine wpAny_mono ((hb (wKeep X.K c i j D) (X.pn ++ pins) _ ?takes).run [] s σ H D (I.toTry _) h) (fun f s1 hsp => ?_) (fun _ _ z => z)
    case takes =>
      rintro _ s' ⟨a, B, sI, pins', σ', H', cls, d, rfl, J', nb, up, sky, na, os, ag, hm, hyes⟩
      have J : Inv X pins σ' H' sI := J'.ofTry I.ok
      refine Sky.land Zc.steady (I.ok.frames.trans (congrArg some hs)) hf (by rw [← hs]; exact sky) fun h3 fl3 up3 => ?_
      have L3 := landed_of (s' := s') hs hf hx J nb os ag fl3 (up.trans up3)
      obtain ⟨oe3, vs3, _, _, S3⟩ := L3.suite na
      have look : PySem.W.Looks (model X.prog X.w) h3 (typeOf (.ref a)) cls := fun A Q E s k q => by
        obtain ⟨oe, _, he, hz, _⟩ := L3.obj
        exact wpAny_typeOf_ref (k _ _ he) (by rw [hz.1]; exact q)
      refine wpAny_handleBy_cons (codeAny_handlers_test ?_) nofun
      refine (show ∀ {Q : Value → Shared → Prop} {E : Value → Shared → Prop}, Q c { s' with heap := h3 } → wpAny (model X.prog X.w) (X.A.mark (some (.ref a))) (eval (.Name x np) X.env) Q E { s' with heap := h3 } from fun q => ?name) ((PySem.W.exm_one L3.inv.kIn look hm).here ?_)
      case name =>
        rcases hc with ⟨hg, hd, k | ⟨k1, k2, k3⟩⟩
        · exact ld_glob S3 hg k q hd
        · exact ld_blt S3 hg k1 k2 q k3 hd
      refine codeAny_handlers_suite_as (HandSPX.lands_againZ fl3 fun h4 fl4 up4 => ?_)
      have L4 := landed_of (s' := s') hs hf hx J nb os ag fl4 ((up.trans up3).trans up4)
      obtain ⟨oe4, vs4, hz4, hd4, S4⟩ := L4.suite na
      refine store_ok (X := X.suite a ((a, oe4) :: (X.pn ++ pins))) (v := .ref a) S4 hN hi (.inl hln) rfl (fun s5 S5 => ?_) (.inr hln)
      have hlt : i < σ'.length := J.len ▸ (List.getElem?_eq_some_iff.mp hi).1
      refine wpAny_mono ((hsu a oe4 (X.pn ++ pins)).run [] s5 _ H' { nx := fun σ6 H6 => σ6 = (σ'.set i (some (.ref a))).set j (some (.ref a)) ∧ H6 = H', rt := fun _ _ => False, bk := fun _ _ => False, ct := fun _ _ => False } S5 ⟨.ref a, List.getElem?_set_self hlt, rfl, rfl⟩) (fun f s6 z => ?_) (fun _ _ z => z.elim)
      cases f with
      | next =>
        obtain ⟨_, _, S6, rfl, rfl⟩ := z
        exact gone_ok (S6.suitePin I.ok) hN hi hln fun s7 J7 => ⟨_, _, J7.track L4.new0 L4.npin hz4 hd4, hyes a na⟩
      | ret u => exact (let ⟨_, _, _, _, _, q⟩ := z; q.elim)
      | brk => exact (let ⟨_, _, _, q⟩ := z; q.elim)
      | cont => exact (let ⟨_, _, _, q⟩ := z; q.elim)
    cases f with
    | next => exact (let ⟨_, _, J, q⟩ := hsp; wpAny_execs_nil ⟨_, _, J.ofTry I.ok, q⟩)
    | ret u => exact (let ⟨_, _, _, J, r, q⟩ := hsp; ⟨_, _, _, J.ofTry I.ok, r, q⟩)
    | brk => exact (let ⟨_, _, J, q⟩ := hsp; ⟨_, _, J.ofTry I.ok, q⟩)
    | cont => exact (let ⟨_, _, J, q⟩ := hsp; ⟨_, _, J.ofTry I.ok, q⟩))⟩
end
end L2

set_option Elab.async false
set_option linter.all false
set_option maxRecDepth 100000
set_option maxHeartbeats 4000000
/-! The class Words: an object that goes through the words of a text. -/
namespace Wd
open PySem PySem.NumText PySem.Spec PyProof.Rows L2 EvP Cm Fk
open Dg hiding numT
def wmeth (j : Nat) : Stmt := match top 24 with
  | .ClassDef _ _ _ body _ _ _ _ _ _ _ => body.getD j (.Pass ⟨0, 0, 0, 0⟩)
  | _ => .Pass ⟨0, 0, 0, 0⟩
/-- the class -/
structure WdC (K : PySem.W.Frag) (C : Addr) : Prop where
  cl : Cls K C
  nW : NoAttr K C "words"
  nA : NoAttr K C "at"
/-- the object: its words at l, its place -/
abbrev WdO (C dx l : Addr) (i : Nat) : HO := .ins C dx [(("words" : Str), .ref l), (("at" : Str), .int (i : Nat))]
structure WdAt (C : Addr) (H : Hp) (a dx l : Addr) (w : List Str) (i : Nat) : Prop where
  at_ : H a = some (WdO C dx l i)
  ls : H l = some (.lst (w.map V.str))
  le : i ≤ w.length
  few : w.length ≤ 10000
  fine : ∀ x ∈ w, x.length ≤ 10000
theorem WdAt.ne {C : Addr} {H : Hp} {a dx l : Addr} {w : List Str} {i : Nat} (h : WdAt C H a dx l w i) : l ≠ a := ne_of h.ls h.at_ (fun z => nomatch z)
theorem WdAt.ex {C : Addr} {H H' : Hp} {a dx l : Addr} {w : List Str} {i : Nat} (h : WdAt C H a dx l w i) (e : Ex H H') : WdAt C H' a dx l w i := ⟨e _ _ h.at_, e _ _ h.ls, h.le, h.few, h.fine⟩
theorem WdAt.go {C : Addr} {H : Hp} {a dx l : Addr} {w : List Str} {i : Nat} (h : WdAt C H a dx l w i) {j : Nat} (hj : j ≤ w.length) : WdAt C (upd H a (WdO C dx l j)) a dx l w j := ⟨upd_same, by rw [upd_ne h.ne]; exact h.ls, hj, h.few, h.fine⟩
/-- all but x stays -/
abbrev ButX (x : Addr) (H H' : Hp) : Prop := ∀ b o, H b = some o → b ≠ x → H' b = some o
/-- what a BadText keeps -/
abbrev badF (k : Nat) : List (Str × V) := [(("word" : Str), V.int (k : Nat)), (("line" : Str), V.int 0)]
/-- the error's class, as the top has written it -/
structure BadC (P : Program) (w : World) (K : PySem.W.Frag) (mg : Str → Option Value) (base : Heap) (CB fI : Addr) (fdI : FuncData) : Prop where
  T : OexC K CB
  iC : PySem.W.findIn K (.ref CB) "__init__" = some (some (.ref fI))
  tI : PySem.W.typeIn K (.ref fI) = some (.type "function")
  n1 : PySem.W.findIn K (.ref CB) "line" = some none
  n2 : PySem.W.findIn K (.ref CB) "word" = some none
  G : FnOk P w K mg base CX0 1 fI fdI ["self", "line", "word"] (spInit2 K "line" "word")
  b : Binds K fdI ["self", "line", "word"] []
  g : mg "BadText" = some (.ref CB)
section
variable {P : Program} {w : World} {K : PySem.W.Frag} {mg : Str → Option Value} {base : Heap} {C CB f fI f1 f2 f3 : Addr} {fd fdI fd1 fd2 fd3 : FuncData}
/-- raise BadText(0, k): the way out -/
theorem raise_bad {σ : L2.St} {H : Hp} {k : Nat} {E : XK} {te : TE} (L : BadC P w K mg base CB fI fdI) (h : EvP.Gives te σ H (is (.int (k : Nat)))) (kk : ∀ d H', Ex H H' → H' d = some (.xd (badF k)) → E (.ref CB) (some d) H') :
    tMkO CB (spInit2 K "line" "word") [] (tCons (tC (.int 0)) (tCons te tNil)) σ H (fun cls d H' => E cls d H') := by
  refine h H (Ex.refl H) _ fun v H1 e1 ev => ?_
  cases (show v = .int (k : Nat) from ev)
  refine ⟨(by show 2 ≤ 1000; decide), fun a ha => ?_⟩
  refine ⟨a, CB, .int 0, .int (k : Nat), rfl, L.T, L.n1, L.n2, upd_same, fun d hd ne => ?_⟩
  have hd' : H1 d = none := by rw [upd_ne ne] at hd; exact hd
  refine ⟨rfl, d, badF k, by rw [upd_ne ne.symm, upd_same], upd_same, hd', ?_⟩
  refine kk d _ (fun b o z => ?_) upd_same
  have z1 := e1 _ _ z
  rw [upd_ne (ne_of_none z1 hd'), del_ne (ne_of_none z1 ha), upd_ne (ne_of_none z1 hd'), upd_ne (ne_of_none z1 ha), upd_ne (ne_of_none z1 hd'), upd_ne (ne_of_none z1 ha)]
  exact z1
theorem g_at {σ : L2.St} {H : Hp} {a dx l : Addr} {i j : Nat} {ww : List Str} (S : WdC K C) (hi : σ[j]? = some (some (.ref a))) (h : WdAt C H a dx l ww i) : EvP.Gives (tFld K (tVar j) "at") σ H (is (.int (i : Nat))) := fun H1 e Q q =>
  ⟨_, hi, a, C, dx, _, _, rfl, e _ _ h.at_, S.cl, S.nA, rfl, q _ _ (Ex.refl _) rfl⟩
/-! at_end, word_now, take_dash -/
def spAtEnd (C : Addr) : Sp := fun vs H Q _ => ∃ (a dx l : Addr) (ww : List Str) (i : Nat), vs = [.ref a] ∧ WdAt C H a dx l ww i ∧ Q (.bl (decide (i = ww.length))) H
/-- the next word -/
def nowV (ww : List Str) (i : Nat) : V := match ww[i]? with
  | some x => .str x
  | none => .non
def spNow (C : Addr) : Sp := fun vs H Q _ => ∃ (a dx l : Addr) (ww : List Str) (i : Nat), vs = [.ref a] ∧ WdAt C H a dx l ww i ∧ Q (nowV ww i) H
def spDash (C : Addr) : Sp := fun vs H Q _ => ∃ (a dx l : Addr) (ww : List Str) (i : Nat), vs = [.ref a] ∧ WdAt C H a dx l ww i ∧ (ww[i]? = some ("-" : Str) → Q (.bl true) (upd H a (WdO C dx l (i + 1)))) ∧ (ww[i]? ≠ some ("-" : Str) → Q (.bl false) H)
theorem scAtEnd : FnScope ["self"] ["self"] (defScope (wmeth 1)) := ⟨rfl, rfl, rfl, by decide +kernel, rfl, by decide +kernel, by decide +kernel⟩
theorem scNow : FnScope ["self"] ["self"] (defScope (wmeth 2)) := ⟨rfl, rfl, rfl, by decide +kernel, rfl, by decide +kernel, by decide +kernel⟩
theorem scDash : FnScope ["self"] ["self"] (defScope (wmeth 4)) := ⟨rfl, rfl, rfl, by decide +kernel, rfl, by decide +kernel, by decide +kernel⟩
theorem ok_atEnd (F : Fun K "at_end" "Words.at_end" (wmeth 1) f fd) (S : WdC K C) (T : Fk.Blt mg) : FnOk P w K mg base CX0 1 f fd ["self"] (spAtEnd C) := by
  refine F.ok scAtEnd (fun vs H Q E h => ?_) (fun cdv A outer s H vs Q E hr h => ?_)
  · obtain ⟨a, dx, l, ww, i, rfl, _⟩ := h
    rfl
  · obtain ⟨a, dx, l, ww, i, rfl, h, q⟩ := h
    refine ⟨_, pss_one (ps_ret (pe_cmpR op_eq (pe_fld (pv 0) rfl) (pe_callB call_len_seq (by rfl) T.len PySem.boot_len (pa_cons (pe_fld (pv 0) rfl) pa_nil)) (nomark _))), ?_⟩
    refine ⟨_, rfl, a, C, dx, _, _, rfl, h.at_, S.cl, S.nA, rfl, _, rfl, a, C, dx, _, _, rfl, h.at_, S.cl, S.nW, rfl, l, _, rfl, .inl (SqL.of h.ls), rfl, ?_⟩
    have : decide (V.int (i : Nat) = V.int ((ww.map V.str).length : Nat)) = decide (i = ww.length) := by
      rw [List.length_map]
      by_cases c : i = ww.length
      · rw [decide_eq_true c, decide_eq_true (by rw [c])]
      · rw [decide_eq_false c, decide_eq_false (fun z => c (by have := V.int.inj z; omega))]
    rw [this]
    exact q
theorem ok_now (F : Fun K "word_now" "Words.word_now" (wmeth 2) f fd) (S : WdC K C) (m1 : Meth K C "at_end" f1) (G : FnOk P w K mg base CX0 1 f1 fd1 ["self"] (spAtEnd C)) (b : Binds K fd1 ["self"] []) : FnOk P w K mg base CX0 2 f fd ["self"] (spNow C) := by
  refine F.ok scNow (fun vs H Q E h => ?_) (fun cdv A outer s H vs Q E hr h => ?_)
  · obtain ⟨a, dx, l, ww, i, rfl, _⟩ := h
    rfl
  · obtain ⟨a, dx, l, ww, i, rfl, h, q⟩ := h
    refine ⟨_, pss_cons (ps_if (pt_val (pe_meth0 (pv 0) S.cl m1 G hr b .nil pass0)) (pss_one (ps_ret pe_non)) pss_nil)
      (pss_one (ps_ret (pe_ix ix_list (pe_fld (pv 0) rfl) (pe_fld (pv 0) rfl) (fun _ _ => rfl)))), ?_⟩
    refine ⟨_, rfl, a, dx, _, rfl, h.at_, rfl, a, dx, l, ww, i, rfl, h, _, rfl, ?_⟩
    by_cases c : i = ww.length
    · rw [decide_eq_true c]
      have e : nowV ww i = .non := by
        unfold nowV
        rw [c, List.getElem?_eq_none (Nat.le_refl _)]
      rw [e] at q
      exact q
    · rw [decide_eq_false c]
      have hi : i < ww.length := by
        have := h.le
        omega
      have e : nowV ww i = .str ww[i] := by
        unfold nowV
        rw [List.getElem?_eq_getElem hi]
      rw [e] at q
      refine ⟨_, rfl, a, C, dx, _, _, rfl, h.at_, S.cl, S.nW, rfl, _, rfl, a, C, dx, _, _, rfl, h.at_, S.cl, S.nA, rfl, l, _, _, _, rfl, rfl, SqL.of h.ls, at_of (j := i) rfl (by rw [List.getElem?_map, List.getElem?_eq_getElem hi]; rfl), q⟩
theorem ok_dash (F : Fun K "take_dash" "Words.take_dash" (wmeth 4) f fd) (S : WdC K C) (m2 : Meth K C "word_now" f2) (G : FnOk P w K mg base CX0 2 f2 fd2 ["self"] (spNow C)) (b : Binds K fd2 ["self"] []) : FnOk P w K mg base CX0 3 f fd ["self"] (spDash C) := by
  refine F.ok scDash (fun vs H Q E h => ?_) (fun cdv A outer s H vs Q E hr h => ?_)
  · obtain ⟨a, dx, l, ww, i, rfl, _⟩ := h
    rfl
  · obtain ⟨a, dx, l, ww, i, rfl, h, q1, q2⟩ := h
    refine ⟨_, pss_cons (ps_if (pt_cmpR op_ne (pe_meth0 (pv 0) S.cl m2 G hr b .nil pass0) pe_str (nomark _)) (pss_one (ps_ret pe_bl)) pss_nil)
      (pss_cons (ps_fldaug (pv 0) pe_int in_add) (pss_one (ps_ret pe_bl))), ?_⟩
    refine ⟨_, rfl, a, dx, _, rfl, h.at_, rfl, a, dx, l, ww, i, rfl, h, ?_⟩
    have sc : scal (nowV ww i) (.str "-") = true := by
      unfold nowV
      cases ww[i]? <;> rfl
    have de : decide (nowV ww i = V.str "-") = decide (ww[i]? = some ("-" : Str)) := by
      unfold nowV
      cases ww[i]? with
      | none => rfl
      | some x =>
        by_cases c : x = "-"
        · rw [c]
          rfl
        · rw [decide_eq_false (show ¬ some x = some ("-" : Str) from fun z => c (Option.some.inj z)), decide_eq_false (show ¬ V.str x = V.str "-" from fun z => c (V.str.inj z))]
    refine ⟨sc, _, rfl, ?_⟩
    rw [de]
    by_cases c : ww[i]? = some ("-" : Str)
    · rw [decide_eq_true c]
      exact ⟨_, rfl, a, C, dx, _, _, rfl, h.at_, S.cl, S.nA, rfl, _, _, rfl, rfl, dx, _, h.at_, by show 2 < 1000; decide, q1 c⟩
    · rw [decide_eq_false c]
      exact q2 c
end
end Wd

set_option Elab.async false
set_option linter.all false
set_option maxRecDepth 100000
set_option maxHeartbeats 4000000
/-! The class Words: what may raise. -/
namespace Wd
open PySem PySem.NumText PySem.Spec PyProof.Rows L2 EvP Cm Fk
open Dg hiding numT
/-- the next word, a name behind prev -/
def nowN (prev : Str) (ww : List Str) (i : Nat) : Option Str := match ww[i]? with
  | some x => if okN prev x = true then some x else none
  | none => none
/-- the next word, a number from m on -/
def nowA (m : Nat) (ww : List Str) (i : Nat) : Option Nat := match ww[i]? with
  | some x => if (numB x && decide (m ≤ valT x)) = true then some (valT x) else none
  | none => none
def spTName (C CB : Addr) : Sp := fun vs H Q E => ∃ (a dx l : Addr) (ww : List Str) (i : Nat) (prev : Str), vs = [.ref a, .str "", .str prev] ∧ WdAt C H a dx l ww i ∧
  (∀ x, nowN prev ww i = some x → Q (.str x) (upd H a (WdO C dx l (i + 1)))) ∧ (nowN prev ww i = none → ∀ d H', Ex H H' → H' d = some (.xd (badF i)) → E (.ref CB) (some d) H')
def spTNum (C CB : Addr) : Sp := fun vs H Q E => ∃ (a dx l : Addr) (ww : List Str) (i m : Nat), vs = [.ref a, .int (m : Nat)] ∧ WdAt C H a dx l ww i ∧
  (∀ n, nowA m ww i = some n → Q (.int (n : Nat)) (upd H a (WdO C dx l (i + 1)))) ∧ (nowA m ww i = none → ∀ d H', Ex H H' → H' d = some (.xd (badF i)) → E (.ref CB) (some d) H')
def spTEnd (C CB : Addr) : Sp := fun vs H Q E => ∃ (a dx l : Addr) (ww : List Str) (i : Nat), vs = [.ref a] ∧ WdAt C H a dx l ww i ∧
  (i = ww.length → Q .non H) ∧ (i ≠ ww.length → ∀ d H', Ex H H' → H' d = some (.xd (badF i)) → E (.ref CB) (some d) H')
theorem scTName : FnScope ["self", "least", "behind", "word"] ["self", "least", "behind"] (defScope (wmeth 5)) := ⟨rfl, rfl, rfl, by decide +kernel, rfl, by decide +kernel, by decide +kernel⟩
theorem scTNum : FnScope ["self", "least", "word"] ["self", "least"] (defScope (wmeth 7)) := ⟨rfl, rfl, rfl, by decide +kernel, rfl, by decide +kernel, by decide +kernel⟩
theorem scTEnd : FnScope ["self"] ["self"] (defScope (wmeth 9)) := ⟨rfl, rfl, rfl, by decide +kernel, rfl, by decide +kernel, by decide +kernel⟩
theorem nowN_at {prev x : Str} {ww : List Str} {i : Nat} (h : ww[i]? = some x) {b c : Bool} (hb : nameB x = b) (hc : decide (tl prev < tl x) = c) : nowN prev ww i = if (b && c) = true then some x else none := by
  unfold nowN okN
  rw [h, ← hb, ← hc]
theorem nowA_at {m : Nat} {x : Str} {ww : List Str} {i : Nat} (h : ww[i]? = some x) {b c : Bool} (hb : numB x = b) (hc : decide (m ≤ valT x) = c) : nowA m ww i = if (b && c) = true then some (valT x) else none := by
  unfold nowA
  rw [h, ← hb, ← hc]
theorem now_some {ww : List Str} {i : Nat} {x : Str} (h : ww[i]? = some x) : nowV ww i = .str x := by
  unfold nowV
  rw [h]
theorem now_none {ww : List Str} {i : Nat} (h : ww[i]? = none) : nowV ww i = .non := by
  unfold nowV
  rw [h]
theorem lt_up {ww : List Str} {i : Nat} {x : Str} (h : ww[i]? = some x) : i + 1 ≤ ww.length := (List.getElem?_eq_some_iff.mp h).1
section
variable {P : Program} {w : World} {K : PySem.W.Frag} {mg : Str → Option Value} {base : Heap} {C CB f fI f1 f2 f3 f4 : Addr} {fd fdI fd1 fd2 fd3 fd4 : FuncData} {dvs : List V}
theorem ok_tend (F : Fun K "take_end" "Words.take_end" (wmeth 9) f fd) (S : WdC K C) (L : BadC P w K mg base CB fI fdI) (m1 : Meth K C "at_end" f1) (G : FnOk P w K mg base CX0 1 f1 fd1 ["self"] (spAtEnd C)) (b : Binds K fd1 ["self"] []) : FnOk P w K mg base (L2.CX P w) 3 f fd ["self"] (spTEnd C CB) := by
  refine F.okX scTEnd (fun vs H Q E h => ?_) (fun cdv A outer s H vs Q E hr h => ?_)
  · obtain ⟨a, dx, l, ww, i, rfl, _⟩ := h
    rfl
  · obtain ⟨a, dx, l, ww, i, rfl, h, q1, q2⟩ := h
    refine ⟨_, pss_one (ps_if (pt_not (pt_val (pe_meth0 (pv 0) S.cl m1 G (hr.mono (by decide)) b .nil pass0)))
      (pss_one (ps_raise (W := fun cls d _ H => E cls d H) rfl (takes_of rfl rfl rfl rfl) (pmk_oex (CX := CX0) L.T L.iC L.tI L.G (hr.mono (by decide)) L.b .nil pass0 (by rfl) L.g (pa_cons pe_int (pa_cons (pe_fld (pv 0) rfl) pa_nil))))) pss_nil), ?_⟩
    refine ⟨_, rfl, a, dx, _, rfl, h.at_, rfl, a, dx, l, ww, i, rfl, h, _, rfl, ?_⟩
    by_cases c : i = ww.length
    · rw [decide_eq_true c]
      exact q1 c
    · rw [decide_eq_false c]
      exact raise_bad L (g_at S rfl h) (q2 c)
theorem ok_tname (F : FunD K "take_name" "Words.take_name" (defArgs (wmeth 5)) (defBody (wmeth 5)) (defScope (wmeth 5)) [.str "", .str ""] [] f fd) (S : WdC K C) (L : BadC P w K mg base CB fI fdI) (m2 : Meth K C "word_now" f2) (G : FnOk P w K mg base CX0 2 f2 fd2 ["self"] (spNow C)) (b : Binds K fd2 ["self"] [])
    (GN : FnOk P w K mg base CX0 1 f3 fd3 ["value"] (spName K)) (bN : Binds K fd3 ["value"] []) (gN : mg "is_name" = some (.ref f3)) (kN : PySem.W.keepIn K (.ref f3) = true) : FnOk P w K mg base (L2.CX P w) 4 f fd ["self", "least", "behind"] (spTName C CB) := by
  have nd := scTName.nd
  refine FunD.ok (CX := L2.CX P w) F scTName (fun vs H Q E h => ?_) (fun cdv A outer s H vs Q E hr h => ?_)
  · obtain ⟨a, dx, l, ww, i, prev, rfl, _⟩ := h
    rfl
  · obtain ⟨a, dx, l, ww, i, prev, rfl, h, q1, q2⟩ := h
    refine ⟨_, pss_cons (ps_set (i := 3) nd rfl (Or.inl rfl) (pe_meth0 (pv 0) S.cl m2 G (hr.mono (by decide)) b .nil pass0))
      (pss_cons (ps_if (PW.pt (pw_or (pt_not (pt_val (pe_call GN (hr.mono (by decide)) (by rfl) gN kN bN .nil pass0 (pa_cons (pv 3) pa_nil)))) (pw_or (pt_cmpR op_lt_str (pv 3) (pv 1) (nomark _)) (pw_or1 (pt_cmpR op_le_str (pv 3) (pv 2) (nomark _))))))
        (pss_one (ps_raise (W := fun cls d _ H => E cls d H) rfl (takes_of rfl rfl rfl rfl) (pmk_oex (CX := CX0) L.T L.iC L.tI L.G (hr.mono (by decide)) L.b .nil pass0 (by rfl) L.g (pa_cons pe_int (pa_cons (pe_fld (pv 0) rfl) pa_nil))))) pss_nil)
      (pss_cons (ps_fldaug (pv 0) pe_int in_add) (pss_one (ps_ret (pv 3))))), ?_⟩
    refine ⟨_, rfl, a, dx, _, rfl, h.at_, rfl, a, dx, l, ww, i, rfl, h, ?_⟩
    cases e : ww[i]? with
    | none =>
      rw [now_none e]
      refine ⟨_, rfl, _, rfl, .inr ⟨_, .base .non, by decide +kernel, _, rfl, ?_⟩⟩
      exact raise_bad L (g_at S rfl h) (q2 (by unfold nowN; rw [e]))
    | some x =>
      rw [now_some e]
      have fx := h.fine x (List.mem_of_getElem? e)
      refine ⟨_, rfl, _, rfl, .inl ⟨x, rfl, by rw [sizeLine_eq]; omega, _, rfl, ?_⟩⟩
      cases hn : nameB x with
      | false => exact raise_bad L (g_at S rfl h) (q2 (nowN_at e hn rfl))
      | true =>
        refine ⟨_, rfl, _, rfl, _, _, rfl, rfl, _, rfl, ?_⟩
        have n0 : decide (x.cps.toList < (Str.ofString "").cps.toList) = false := by
          refine decide_eq_false ?_
          show ¬ x.cps.toList < []
          exact List.not_lt_nil _
        rw [n0]
        refine ⟨_, rfl, _, rfl, _, _, rfl, rfl, _, rfl, ?_⟩
        cases hp : decide (prev.cps.toList < x.cps.toList) with
        | false => exact raise_bad L (g_at S rfl h) (q2 (nowN_at e hn hp))
        | true =>
          exact ⟨_, rfl, a, C, dx, _, _, rfl, h.at_, S.cl, S.nA, rfl, _, _, rfl, rfl, dx, _, h.at_, by show 2 < 1000; decide, _, rfl, q1 x (nowN_at e hn hp)⟩
theorem ok_tnum (F : Fun K "take_number" "Words.take_number" (wmeth 7) f fd) (S : WdC K C) (L : BadC P w K mg base CB fI fdI) (m2 : Meth K C "word_now" f2) (G : FnOk P w K mg base CX0 2 f2 fd2 ["self"] (spNow C)) (b : Binds K fd2 ["self"] [])
    (GI : FnOk P w K mg base CX0 1 f3 fd3 ["word"] spIsNum) (bI : Binds K fd3 ["word"] []) (gI : mg "is_number_text" = some (.ref f3)) (kI : PySem.W.keepIn K (.ref f3) = true)
    (GN : FnOk P w K mg base CX0 1 f4 fd4 ["word"] spNumOf) (bN : Binds K fd4 ["word"] []) (gN : mg "number_of" = some (.ref f4)) (kN : PySem.W.keepIn K (.ref f4) = true) : FnOk P w K mg base (L2.CX P w) 4 f fd ["self", "least"] (spTNum C CB) := by
  have nd := scTNum.nd
  refine F.okX scTNum (fun vs H Q E h => ?_) (fun cdv A outer s H vs Q E hr h => ?_)
  · obtain ⟨a, dx, l, ww, i, m, rfl, _⟩ := h
    rfl
  · obtain ⟨a, dx, l, ww, i, m, rfl, h, q1, q2⟩ := h
    refine ⟨_, pss_cons (ps_set (i := 2) nd rfl (Or.inl rfl) (pe_meth0 (pv 0) S.cl m2 G (hr.mono (by decide)) b .nil pass0))
      (pss_cons (ps_if (PW.pt (pw_or (pt_cmpR op_isN (pv 2) pe_non (nomark _)) (pw_or (pt_not (pt_val (pe_call GI (hr.mono (by decide)) (by rfl) gI kI bI .nil pass0 (pa_cons (pv 2) pa_nil)))) (pw_or1 (pt_cmpR op_lt (pe_call GN (hr.mono (by decide)) (by rfl) gN kN bN .nil pass0 (pa_cons (pv 2) pa_nil)) (pv 1) (nomark _))))))
        (pss_one (ps_raise (W := fun cls d _ H => E cls d H) rfl (takes_of rfl rfl rfl rfl) (pmk_oex (CX := CX0) L.T L.iC L.tI L.G (hr.mono (by decide)) L.b .nil pass0 (by rfl) L.g (pa_cons pe_int (pa_cons (pe_fld (pv 0) rfl) pa_nil))))) pss_nil)
      (pss_cons (ps_fldaug (pv 0) pe_int in_add) (pss_one (ps_ret (pe_call GN (hr.mono (by decide)) (by rfl) gN kN bN .nil pass0 (pa_cons (pv 2) pa_nil)))))), ?_⟩
    refine ⟨_, rfl, a, dx, _, rfl, h.at_, rfl, a, dx, l, ww, i, rfl, h, ?_⟩
    cases e : ww[i]? with
    | none =>
      rw [now_none e]
      refine ⟨_, rfl, rfl, _, rfl, ?_⟩
      exact raise_bad L (g_at S rfl h) (q2 (by unfold nowA; rw [e]))
    | some x =>
      rw [now_some e]
      have fx := h.fine x (List.mem_of_getElem? e)
      refine ⟨_, rfl, rfl, _, rfl, ?_⟩
      refine ⟨_, rfl, x, rfl, fx, _, rfl, ?_⟩
      cases hb : numB x with
      | false => exact raise_bad L (g_at S rfl h) (q2 (nowA_at e hb rfl))
      | true =>
        have dg : AllDigits (tl x) := (digit_chars (x := x) (by unfold numB at hb; rw [Bool.and_eq_true] at hb; exact hb.1)).1
        refine ⟨_, rfl, x, rfl, dg, fx, _, rfl, _, _, rfl, rfl, _, rfl, ?_⟩
        have dv : decide (((valT x : Nat) : Int) < ((m : Nat) : Int)) = !decide (m ≤ valT x) := by
          by_cases c : m ≤ valT x
          · rw [decide_eq_true c, decide_eq_false (by omega)]
            rfl
          · rw [decide_eq_false c, decide_eq_true (by omega)]
            rfl
        rw [dv]
        cases hm : decide (m ≤ valT x) with
        | false => exact raise_bad L (g_at S rfl h) (q2 (nowA_at e hb hm))
        | true =>
          exact ⟨_, rfl, a, C, dx, _, _, rfl, h.at_, S.cl, S.nA, rfl, _, _, rfl, rfl, dx, _, h.at_, by show 2 < 1000; decide, _, rfl, x, rfl, dg, fx, q1 _ (nowA_at e hb hm)⟩
end
end Wd

set_option Elab.async false
set_option linter.all false
set_option maxRecDepth 100000
set_option maxHeartbeats 4000000
/-! Words.take_name with both ends, Words.take_pair. -/
namespace Wd
open PySem PySem.NumText PySem.Spec PyProof.Rows L2 EvP Cm Fk
open Dg hiding numT
/-- the next word, a name from lo on and behind prev -/
def okG (lo prev x : Str) : Bool := nameB x && (!decide (tl x < tl lo)) && decide (tl prev < tl x)
def nowG (lo prev : Str) (ww : List Str) (i : Nat) : Option Str := match ww[i]? with
  | some x => if okG lo prev x = true then some x else none
  | none => none
def spTNameG (C CB : Addr) : Sp := fun vs H Q E => ∃ (a dx l : Addr) (ww : List Str) (i : Nat) (lo prev : Str), vs = [.ref a, .str lo, .str prev] ∧ WdAt C H a dx l ww i ∧
  (∀ x, nowG lo prev ww i = some x → Q (.str x) (upd H a (WdO C dx l (i + 1)))) ∧ (nowG lo prev ww i = none → ∀ d H', Ex H H' → H' d = some (.xd (badF i)) → E (.ref CB) (some d) H')
theorem nowG_at {lo prev x : Str} {ww : List Str} {i : Nat} (h : ww[i]? = some x) {b c e : Bool} (hb : nameB x = b) (he : decide (tl x < tl lo) = e) (hc : decide (tl prev < tl x) = c) : nowG lo prev ww i = if (b && (!e) && c) = true then some x else none := by
  unfold nowG okG
  rw [h, ← hb, ← hc, ← he]
section
variable {P : Program} {w : World} {K : PySem.W.Frag} {mg : Str → Option Value} {base : Heap} {C CB f fI f1 f2 f3 : Addr} {fd fdI fd1 fd2 fd3 : FuncData}
theorem ok_tnameG (F : FunD K "take_name" "Words.take_name" (defArgs (wmeth 5)) (defBody (wmeth 5)) (defScope (wmeth 5)) [.str "", .str ""] [] f fd) (S : WdC K C) (L : BadC P w K mg base CB fI fdI) (m2 : Meth K C "word_now" f2) (G : FnOk P w K mg base CX0 2 f2 fd2 ["self"] (spNow C)) (b : Binds K fd2 ["self"] [])
    (GN : FnOk P w K mg base CX0 1 f3 fd3 ["value"] (spName K)) (bN : Binds K fd3 ["value"] []) (gN : mg "is_name" = some (.ref f3)) (kN : PySem.W.keepIn K (.ref f3) = true) : FnOk P w K mg base (L2.CX P w) 4 f fd ["self", "least", "behind"] (spTNameG C CB) := by
  have nd := scTName.nd
  refine FunD.ok (CX := L2.CX P w) F scTName (fun vs H Q E h => ?_) (fun cdv A outer s H vs Q E hr h => ?_)
  · obtain ⟨a, dx, l, ww, i, lo, prev, rfl, _⟩ := h
    rfl
  · obtain ⟨a, dx, l, ww, i, lo, prev, rfl, h, q1, q2⟩ := h
    refine ⟨_, pss_cons (ps_set (i := 3) nd rfl (Or.inl rfl) (pe_meth0 (pv 0) S.cl m2 G (hr.mono (by decide)) b .nil pass0))
      (pss_cons (ps_if (PW.pt (pw_or (pt_not (pt_val (pe_call GN (hr.mono (by decide)) (by rfl) gN kN bN .nil pass0 (pa_cons (pv 3) pa_nil)))) (pw_or (pt_cmpR op_lt_str (pv 3) (pv 1) (nomark _)) (pw_or1 (pt_cmpR op_le_str (pv 3) (pv 2) (nomark _))))))
        (pss_one (ps_raise (W := fun cls d _ H => E cls d H) rfl (takes_of rfl rfl rfl rfl) (pmk_oex (CX := CX0) L.T L.iC L.tI L.G (hr.mono (by decide)) L.b .nil pass0 (by rfl) L.g (pa_cons pe_int (pa_cons (pe_fld (pv 0) rfl) pa_nil))))) pss_nil)
      (pss_cons (ps_fldaug (pv 0) pe_int in_add) (pss_one (ps_ret (pv 3))))), ?_⟩
    refine ⟨_, rfl, a, dx, _, rfl, h.at_, rfl, a, dx, l, ww, i, rfl, h, ?_⟩
    cases e : ww[i]? with
    | none =>
      rw [now_none e]
      refine ⟨_, rfl, _, rfl, .inr ⟨_, .base .non, by decide +kernel, _, rfl, ?_⟩⟩
      exact raise_bad L (g_at S rfl h) (q2 (by unfold nowG; rw [e]))
    | some x =>
      rw [now_some e]
      have fx := h.fine x (List.mem_of_getElem? e)
      refine ⟨_, rfl, _, rfl, .inl ⟨x, rfl, by rw [sizeLine_eq]; omega, _, rfl, ?_⟩⟩
      cases hn : nameB x with
      | false => exact raise_bad L (g_at S rfl h) (q2 (nowG_at e hn rfl rfl))
      | true =>
        refine ⟨_, rfl, _, rfl, _, _, rfl, rfl, _, rfl, ?_⟩
        cases hl : decide (x.cps.toList < lo.cps.toList) with
        | true => exact raise_bad L (g_at S rfl h) (q2 (nowG_at e hn hl rfl))
        | false =>
          refine ⟨_, rfl, _, rfl, _, _, rfl, rfl, _, rfl, ?_⟩
          cases hp : decide (prev.cps.toList < x.cps.toList) with
          | false => exact raise_bad L (g_at S rfl h) (q2 (nowG_at e hn hl hp))
          | true =>
            exact ⟨_, rfl, a, C, dx, _, _, rfl, h.at_, S.cl, S.nA, rfl, _, _, rfl, rfl, dx, _, h.at_, by show 2 < 1000; decide, _, rfl, q1 x (nowG_at e hn hl hp)⟩
/-- the next pair of names, behind (p, q) -/
def spTPair (K : PySem.W.Frag) (C CB : Addr) : Sp := fun vs H Q E => ∃ (a dx l b : Addr) (ww : List Str) (i : Nat) (p q : Str), vs = [.ref a, .ref b] ∧ WdAt C H a dx l ww i ∧ SqT K H b [.str p, .str q] ∧
  (∀ x y, nowG p "" ww i = some x → nowG "" (if x = p then q else "") ww (i + 1) = some y → ∀ t H', ButX a H H' → H t = none → H' t = some (.tup [.str x, .str y]) → WdAt C H' a dx l ww (i + 2) → Q (.ref t) H') ∧
  (nowG p "" ww i = none → ∀ d H', Ex H H' → H' d = some (.xd (badF i)) → E (.ref CB) (some d) H') ∧
  (∀ x, nowG p "" ww i = some x → nowG "" (if x = p then q else "") ww (i + 1) = none → ∀ d H', ButX a H H' → H' d = some (.xd (badF (i + 1))) → E (.ref CB) (some d) H')
theorem scTPair : FnScope ["self", "behind", "source"] ["self", "behind"] (defScope (wmeth 6)) := ⟨rfl, rfl, rfl, by decide +kernel, rfl, by decide +kernel, by decide +kernel⟩
theorem nowG_up {lo prev x : Str} {ww : List Str} {i : Nat} (h : nowG lo prev ww i = some x) : ww[i]? = some x ∧ okG lo prev x = true := by
  unfold nowG at h
  cases e : ww[i]? with
  | none => rw [e] at h; cases h
  | some z =>
    rw [e] at h
    dsimp only at h
    by_cases c : okG lo prev z = true
    · rw [if_pos c] at h
      cases Option.some.inj h
      exact ⟨rfl, c⟩
    · rw [if_neg c] at h
      cases h
theorem sqt_upd {H : Hp} {a b C0 dx0 : Addr} {fs : List (Str × V)} {o : HO} {xs : List V} (ha : H a = some (.ins C0 dx0 fs)) (h : SqT K H b xs) : SqT K (upd H a o) b xs := by
  rcases h with (h | ⟨o, h⟩) | h
  · exact .inl (.inl (by rw [upd_ne (ne_of h ha fun z => nomatch z)]; exact h))
  · exact .inl (.inr ⟨o, by rw [upd_ne (ne_of h ha fun z => nomatch z)]; exact h⟩)
  · exact .inr h
theorem ok_tpair {dvs : List V} (F : FunD K "take_pair" "Words.take_pair" (defArgs (wmeth 6)) (defBody (wmeth 6)) (defScope (wmeth 6)) dvs [] f fd) (S : WdC K C)
    (m1 : Meth K C "take_name" f1) (G1 : FnOk P w K mg base (L2.CX P w) 4 f1 fd1 ["self", "least", "behind"] (spTNameG C CB)) {d1 d2 : List Value} (v1 : Vals [V.str ""] d1) (v2 : Vals [V.str "", V.str ""] d2)
    (b0 : Binds K fd1 ["self", "least", "behind"] []) (b1 : Binds K fd1 ["self", "least", "behind"] d1) (b2 : Binds K fd1 ["self", "least", "behind"] d2) : FnOk P w K mg base (L2.CX P w) 5 f fd ["self", "behind"] (spTPair K C CB) := by
  have nd := scTPair.nd
  refine FunD.ok (CX := L2.CX P w) F scTPair (fun vs H Q E h => ?_) (fun cdv A outer s H vs Q E hr h => ?_)
  · obtain ⟨a, dx, l, b, ww, i, p, q, rfl, _⟩ := h
    rfl
  · obtain ⟨a, dx, l, b, ww, i, p, q, rfl, h, hb, q1, q2, q3⟩ := h
    have px : Passes (L2.CX P w) (cxOf (L2.CX P w) P w K mg base ["self", "behind", "source"] "Words.take_pair" (defScope (wmeth 6)) f cdv A outer s H E) E := passes_call (W := fun cls d _ H => E cls d H) (takes_of rfl rfl rfl rfl) (fun _ _ _ _ z => z)
    refine ⟨_, pss_cons (ps_set (i := 2) nd rfl (Or.inl rfl) (pe_meth (E := E) (dvs := [.str ""]) (pv 0) S.cl m1 G1 hr b1 v1 px (pa_cons (pe_ix ix_tup (pv 1) pe_int (fun _ _ => rfl)) pa_nil)))
      (pss_cons (ps_if (pt_cmpR op_eq (pv 2) (pe_ix ix_tup (pv 1) pe_int (fun _ _ => rfl)) (nomark _))
        (pss_one (ps_ret (pe_tup (pa_cons (pv 2) (pa_cons (pe_meth (E := E) (dvs := []) (pv 0) S.cl m1 G1 hr b0 .nil px (pa_cons pe_str (pa_cons (pe_ix ix_tup (pv 1) pe_int (fun _ _ => rfl)) pa_nil))) pa_nil))))) pss_nil)
      (pss_one (ps_ret (pe_tup (pa_cons (pv 2) (pa_cons (pe_meth0 (E := E) (dvs := [.str "", .str ""]) (pv 0) S.cl m1 G1 hr b2 v2 px) pa_nil)))))), ?_⟩
    have hi : ∀ x, nowG p "" ww i = some x → i + 1 ≤ ww.length := fun x hx => lt_up (nowG_up hx).1
    refine ⟨_, rfl, a, dx, _, rfl, h.at_, rfl, _, rfl, b, _, _, _, rfl, rfl, hb, atI_nat (j := 0) rfl, a, dx, l, ww, i, p, "", rfl, h, fun x hx => ?_, fun hn d H' e' hd => q2 hn d H' e' hd⟩
    have h1 := h.go (hi x hx)
    have hb1 : SqT K (upd H a (WdO C dx l (i + 1))) b [.str p, .str q] := sqt_upd h.at_ hb
    have bt1 : ButX a H (upd H a (WdO C dx l (i + 1))) := fun c o hc ne => by
      rw [upd_ne ne]
      exact hc
    generalize upd H a (WdO C dx l (i + 1)) = G at h1 hb1 bt1 ⊢
    have fin : ∀ y, nowG "" (if x = p then q else "") ww (i + 1) = some y → ∀ t, upd G a (WdO C dx l (i + 1 + 1)) t = none → Q (.ref t) (upd (upd G a (WdO C dx l (i + 1 + 1))) t (.tup [.str x, .str y])) := fun y hy t ht => by
      have h2 := h1.go (lt_up (nowG_up hy).1)
      have e2 := Ex.new (o := .tup [.str x, .str y]) ht
      have hG : G t = none := by
        by_cases z : t = a
        · rw [z, upd_same] at ht
          cases ht
        · rw [upd_ne z] at ht
          exact ht
      refine q1 x y hx hy t _ (fun c o hc ne => ?_) ?_ upd_same (h2.ex e2)
      · exact e2 _ _ (by rw [upd_ne ne]; exact bt1 c o hc ne)
      · cases z : H t with
        | none => rfl
        | some o =>
          exfalso
          by_cases ta : t = a
          · rw [ta, h1.at_] at hG
            cases hG
          · rw [bt1 t o z ta] at hG
            cases hG
    refine ⟨_, rfl, _, rfl, b, _, _, _, rfl, rfl, hb1, atI_nat (j := 0) rfl, rfl, _, rfl, ?_⟩
    by_cases c : x = p
    · rw [show decide (V.str x = V.str p) = true from decide_eq_true (by rw [c])]
      rw [if_pos c] at fin
      refine ⟨_, rfl, _, rfl, a, dx, _, rfl, h1.at_, rfl, _, rfl, b, _, _, _, rfl, rfl, hb1, atI_nat (j := 1) rfl, a, dx, l, ww, i + 1, "", q, rfl, h1, fun y hy => ?_, fun hn d H' e' hd => q3 x hx (by rw [if_pos c]; exact hn) d H' (fun c2 o hc ne => e' _ _ (bt1 c2 o hc ne)) hd⟩
      exact ⟨by rw [sizeLine_eq]; show 2 ≤ 16777216; decide, fin y hy⟩
    · rw [show decide (V.str x = V.str p) = false from decide_eq_false (fun z => c (V.str.inj z))]
      rw [if_neg c] at fin
      refine ⟨_, rfl, _, rfl, a, dx, _, rfl, h1.at_, rfl, a, dx, l, ww, i + 1, "", "", rfl, h1, fun y hy => ?_, fun hn d H' e' hd => q3 x hx (by rw [if_neg c]; exact hn) d H' (fun c2 o hc ne => e' _ _ (bt1 c2 o hc ne)) hd⟩
      exact ⟨by rw [sizeLine_eq]; show 2 ≤ 16777216; decide, fin y hy⟩
end
end Wd

set_option Elab.async false
set_option linter.all false
set_option maxRecDepth 100000
set_option maxHeartbeats 4000000
/-! take_one, with a single choice. -/
namespace Wd
open PySem PySem.NumText PySem.Spec PyProof.Rows L2 EvP Cm Fk
open Dg hiding numT
def spTOne (C CB : Addr) : Sp := fun vs H Q E => ∃ (a dx l c : Addr) (ww : List Str) (i : Nat) (s : Str), vs = [.ref a, .ref c] ∧ WdAt C H a dx l ww i ∧ H c = some (.tup [.str s]) ∧
  (ww[i]? = some s → Q (.str s) (upd H a (WdO C dx l (i + 1)))) ∧ (ww[i]? ≠ some s → ∀ d H', Ex H H' → H' d = some (.xd (badF i)) → E (.ref CB) (some d) H')
theorem scTOne : FnScope ["self", "choices", "word"] ["self", "choices"] (defScope (wmeth 3)) := ⟨rfl, rfl, rfl, by decide +kernel, rfl, by decide +kernel, by decide +kernel⟩
theorem in_one (x s : Str) : inV (.str x) [.str s] = decide (x = s) := by
  unfold inV
  show (eqV (.str s) (.str x) || false) = _
  rw [Bool.or_false]
  show decide (s = x) = _
  exact decide_eq_decide.mpr eq_comm
theorem in_one_non (s : Str) : inV .non [.str s] = false := rfl
section
variable {P : Program} {w : World} {K : PySem.W.Frag} {mg : Str → Option Value} {base : Heap} {C CB f fI f1 f2 f3 f4 : Addr} {fd fdI fd1 fd2 fd3 fd4 : FuncData} {dvs : List V}
theorem ok_tone (F : Fun K "take_one" "Words.take_one" (wmeth 3) f fd) (S : WdC K C) (L : BadC P w K mg base CB fI fdI) (m2 : Meth K C "word_now" f2) (G : FnOk P w K mg base CX0 2 f2 fd2 ["self"] (spNow C)) (b : Binds K fd2 ["self"] []) : FnOk P w K mg base (L2.CX P w) 4 f fd ["self", "choices"] (spTOne C CB) := by
  have nd := scTOne.nd
  refine F.okX scTOne (fun vs H Q E h => ?_) (fun cdv A outer s H vs Q E hr h => ?_)
  · obtain ⟨a, dx, l, c, ww, i, s, rfl, _⟩ := h
    rfl
  · obtain ⟨a, dx, l, c, ww, i, s, rfl, h, hc, q1, q2⟩ := h
    refine ⟨_, pss_cons (ps_set (i := 2) nd rfl (Or.inl rfl) (pe_meth0 (pv 0) S.cl m2 G (hr.mono (by decide)) b .nil pass0))
      (pss_cons (ps_if (pt_cmpR op_notIn_seq (pv 2) (pv 1) (by rfl))
        (pss_one (ps_raise (W := fun cls d _ H => E cls d H) rfl (takes_of rfl rfl rfl rfl) (pmk_oex (CX := CX0) L.T L.iC L.tI L.G (hr.mono (by decide)) L.b .nil pass0 (by rfl) L.g (pa_cons pe_int (pa_cons (pe_fld (pv 0) rfl) pa_nil))))) pss_nil)
      (pss_cons (ps_fldaug (pv 0) pe_int in_add) (pss_one (ps_ret (pv 2))))), ?_⟩
    refine ⟨_, rfl, a, dx, _, rfl, h.at_, rfl, a, dx, l, ww, i, rfl, h, ?_⟩
    cases e : ww[i]? with
    | none =>
      rw [now_none e]
      refine ⟨_, rfl, _, rfl, c, _, rfl, .inr (SqT.of hc), rfl, rfl, _, rfl, ?_⟩
      exact raise_bad L (g_at S rfl h) (q2 (by rw [e]; exact fun z => nomatch z))
    | some x =>
      rw [now_some e]
      refine ⟨_, rfl, _, rfl, c, _, rfl, .inr (SqT.of hc), rfl, rfl, _, rfl, ?_⟩
      rw [if_pos rfl, in_one]
      by_cases xs : x = s
      · rw [decide_eq_true xs]
        subst xs
        exact ⟨_, rfl, a, C, dx, _, _, rfl, h.at_, S.cl, S.nA, rfl, _, _, rfl, rfl, dx, _, h.at_, by show 2 < 1000; decide, _, rfl, q1 e⟩
      · rw [decide_eq_false xs]
        exact raise_bad L (g_at S rfl h) (q2 (by rw [e]; exact fun z => xs (Option.some.inj z)))
end
end Wd

set_option Elab.async false
set_option linter.all false
set_option maxRecDepth 100000
set_option maxHeartbeats 2000000
/-! {k: v}, k a tuple. -/
namespace L2
open PySem PySem.Spec PyProof.Rows
section
variable {X : Cx} {pos : Pos} {kx vx : Expr} {tk tv : TE}
def tDispT (tk tv : TE) : TE := fun σ H Q => ∀ g, H g = none → tPairs [(tk, tv)] σ (upd H g (.dT [])) fun ps H2 => H2 g = some (.dT []) ∧ ∃ (k : List Key) (b : Addr) (z : V), ps = [(.ref b, z)] ∧ H2 b = some (.tup (k.map kV)) ∧ Q (.ref g) (upd H2 g (.dT [(k, z)]))
theorem pe_dispT (hu : X.A.units + 1 < cLine) (hk : PPs X pos [some kx] [vx] [(tk, tv)]) : PE X (.Dict [some kx] [vx] pos) (tDispT tk tv) := by
  refine ⟨fun pins s σ H Q I q => ?_⟩
  have hn := I.hok.fresh (Nat.le_refl s.heap.objs.size)
  have I1 := I.laid (a := s.heap.objs.size) (o := .dT []) (h' := s.heap.push { cls := .type "dict", data := .dict #[] }) (t' := s.toks) (fun _ _ q => Heap.get?_push_of_some _ q) (Nat.le_refl _) (dt_empty s.heap I.big)
  have hlen : (pairTrees [some kx] [vx] X.env pos).length = 1 := pairTrees_length [some kx] [vx] X.env pos rfl rfl
  rw [arm_eval_Dict, zip_pairTrees [some kx] [vx] X.env pos rfl rfl, dictDisplay_pairs _ (fun z => by rw [z] at hlen; cases hlen) (by omega)]
  refine wpAny_bind (wpAny_standAt (wpAny_bind (wpAny_subDictH (knd := tupleKind (mixKind X.prog X.w)) ?_ (by omega) (thn (hk.run pins _ σ _ _ I1 (q _ hn)) fun ws s2 ⟨ps, H2, I2, rel, e, k, b, z, ep, hb, q2⟩ => ?_))))
  · show X.A.units < cLine
    omega
  · subst ep
    cases rel with
    | @cons p1 p2 as bs h t =>
      cases t
      obtain ⟨u, v⟩ := p2
      obtain ⟨r1, r2⟩ := h
      obtain rfl : u = Value.ref b := r1
      obtain ⟨zl, hd, xs, rk, dd⟩ := dt_of I2.hok e
      cases rk
      refine ⟨[(k, b, v)], ⟨rfl, rfl, key_of I2.hok hb, trivial⟩, dd, fun h' tk2 dd' hs => wpAny_pure ⟨.ref s.heap.objs.size, _, ?_, rfl, q2⟩⟩
      obtain ⟨o2, es, ep, hq, h2, h3, h4, _, h5⟩ := dd'
      refine d_write I2 (by rw [e]; exact True.intro) hs ⟨o2, hq⟩ ⟨by show 1 ≤ sizeLine; rw [sizeLine_eq]; decide, hd, _, (KT.put (kvs := []) (xs := []) .nil k hb r2).keeps fun c ys ec => ?_, o2, es, ep, hq, h2, h3, h4, h5⟩
      rw [upd_ne (ne_of ec e (fun z => nomatch z))]
      exact ec
end
end L2

set_option Elab.async false
set_option linter.all false
set_option maxRecDepth 100000
set_option maxHeartbeats 4000000
/-! take_numbers, take_amounts, Words(..), Side.read. -/
namespace Wd
open PySem PySem.NumText PySem.Spec PyProof.Rows L2 EvP Cm Fk
open Dg hiding numT
/-- names with numbers to the end -/
def spTNums (C CB : Addr) : Sp := fun vs H Q E => ∃ (a dx l : Addr) (ww : List Str) (i : Nat), vs = [.ref a, .int 1, .non] ∧ WdAt C H a dx l ww i ∧ i < ww.length ∧
  (wr "" i (ww.drop i) = none → ∀ d H', ButX a H H' → H d = none → H' d = some (.dK (ents (rows (ww.drop i)))) → WdAt C H' a dx l ww ww.length → Q (.ref d) H') ∧
  (∀ k, wr "" i (ww.drop i) = some k → ∀ d H', ButX a H H' → H' d = some (.xd (badF k)) → E (.ref CB) (some d) H')
/-- one turn -/
theorem wr_step {ww : List Str} {prev : Str} {i : Nat} (hi : i < ww.length) :
    (nowN prev ww i = none → wr prev i (ww.drop i) = some i) ∧
    (∀ x, nowN prev ww i = some x → nowA 1 ww (i + 1) = none → wr prev i (ww.drop i) = some (i + 1)) ∧
    (∀ x n, nowN prev ww i = some x → nowA 1 ww (i + 1) = some n → wr prev i (ww.drop i) = wr x (i + 2) (ww.drop (i + 2)) ∧ rows (ww.drop i) = (x, ((n : Nat) : Int)) :: rows (ww.drop (i + 2)) ∧ nameB x = true ∧ tl prev < tl x ∧ i + 2 ≤ ww.length) := by
  have d1 : ww.drop i = ww[i] :: ww.drop (i + 1) := List.drop_eq_getElem_cons hi
  have e1 : ww[i]? = some ww[i] := List.getElem?_eq_getElem hi
  have nN : nowN prev ww i = if okN prev ww[i] = true then some ww[i] else none := by
    unfold nowN
    rw [e1]
  rw [nN]
  by_cases ok : okN prev ww[i] = true
  · rw [if_pos ok]
    refine ⟨fun z => (by cases z), fun x hx hA => ?_, fun x n hx hA => ?_⟩
    · by_cases h2 : i + 1 < ww.length
      · have d2 : ww.drop (i + 1) = ww[i + 1] :: ww.drop (i + 1 + 1) := List.drop_eq_getElem_cons h2
        have na : ¬ amtB ww[i + 1] = true := by
          intro z
          unfold nowA at hA
          rw [List.getElem?_eq_getElem h2] at hA
          dsimp only at hA
          rw [amt_num, if_pos z] at hA
          cases hA
        rw [d1, d2]
        unfold wr
        rw [if_pos ok, if_neg na]
      · have d2 : ww.drop (i + 1) = [] := List.drop_eq_nil_of_le (by omega)
        rw [d1, d2]
        unfold wr
        rw [if_pos ok]
    · have h2 : i + 1 < ww.length := by
        by_cases h2 : i + 1 < ww.length
        · exact h2
        · unfold nowA at hA
          rw [List.getElem?_eq_none (by omega)] at hA
          cases hA
      have d2 : ww.drop (i + 1) = ww[i + 1] :: ww.drop (i + 1 + 1) := List.drop_eq_getElem_cons h2
      have ya : amtB ww[i + 1] = true ∧ n = valT ww[i + 1] := by
        unfold nowA at hA
        rw [List.getElem?_eq_getElem h2] at hA
        dsimp only at hA
        rw [amt_num] at hA
        by_cases z : amtB ww[i + 1] = true
        · rw [if_pos z] at hA
          exact ⟨z, (Option.some.inj hA).symm⟩
        · rw [if_neg z] at hA
          cases hA
      obtain rfl := Option.some.inj hx
      have ok' := ok
      unfold okN at ok'
      rw [Bool.and_eq_true, decide_eq_true_eq] at ok'
      refine ⟨?_, ?_, ok'.1, ok'.2, by omega⟩
      · rw [d1, d2, show i + 2 = i + 1 + 1 from rfl]
        conv => lhs; unfold wr
        rw [if_pos ok, if_pos ya.1]
      · rw [d1, d2, ya.2]
        rfl
  · rw [if_neg ok]
    refine ⟨fun _ => ?_, fun x hx => (by cases hx), fun x n hx => (by cases hx)⟩
    rw [d1]
    cases hr : ww.drop (i + 1) with
    | nil =>
      unfold wr
      rw [if_neg ok]
    | cons y r =>
      unfold wr
      rw [if_neg ok]
def NTs : List Str := ["self", "least", "sign", "numbers", "name"]
theorem scTNums : FnScope NTs ["self", "least", "sign"] (defScope (wmeth 8)) := ⟨rfl, rfl, rfl, by decide +kernel, rfl, by decide +kernel, by decide +kernel⟩
/-- how far the loop is: acc is read, name is the last one's -/
structure TurnI (C a dx l c : Addr) (H : Hp) (ww : List Str) (i0 μ : Nat) (σ : L2.St) (H' : Hp) (acc : Fk.Row) (name : Str) (i : Nat) : Prop where
  μ : μ = ww.length - i
  σ : σ = [some (.ref a), some (.int 1), some .non, some (.ref c), some (.str name)]
  but : ButX a H H'
  d : H' c = some (.dK (ents acc))
  w : WdAt C H' a dx l ww i
  ew : wr "" i0 (ww.drop i0) = wr name i (ww.drop i)
  er : rows (ww.drop i0) = acc ++ rows (ww.drop i)
  st : (acc = [] ∧ name = "" ∧ i = i0) ∨ (acc ≠ [] ∧ nameB name = true)
  up : ∀ t ∈ acc, t.1 = name ∨ tl t.1 < tl name
  few : 2 * acc.length ≤ i
theorem turn_ok {C CB a dx l c : Addr} {H H1 : Hp} {ww : List Str} {i0 μ : Nat} {σ : L2.St} {acc : Fk.Row} {name : Str} {i : Nat} {E : XK} {D : Ends} (T : TurnI C a dx l c H ww i0 μ σ H1 acc name i) (hc : H c = none) (hi : i < ww.length)
    (kN : ∀ m σ2 H2 acc2 name2 i2, m < μ → TurnI C a dx l c H ww i0 m σ2 H2 acc2 name2 i2 → D.nx σ2 H2)
    (kE : ∀ k, wr "" i0 (ww.drop i0) = some k → ∀ d H', ButX a H H' → H' d = some (.xd (badF k)) → E (.ref CB) (some d) H') :
    tSeq (tAsg (tMeth C "take_name" (spTName C CB) [] E (tVar 0) (tCons (tC (.str "")) (tCons (tVar 4) tNil))) (gName 4)) (sDPut (tVar 3) (tVar 4) (tMeth C "take_number" (spTNum C CB) [] E (tVar 0) (tCons (tVar 1) tNil))) D σ H1 := by
  obtain ⟨rfl, rfl, bt, hd, hw, ew, er, st, up, few⟩ := T
  obtain ⟨s1, s2, s3⟩ := wr_step (prev := name) hi
  refine ⟨_, rfl, a, dx, _, rfl, hw.at_, rfl, _, rfl, a, dx, l, ww, i, name, rfl, hw, fun x hx => ?_, fun hn d H2 e2 hd2 => kE i (by rw [ew, s1 hn]) d H2 (fun b o hb ne => e2 _ _ (bt b o hb ne)) hd2⟩
  have ca : c ≠ a := ne_of hd hw.at_ (fun z => nomatch z)
  have cl : c ≠ l := ne_of hd hw.ls (fun z => nomatch z)
  have hw1 : WdAt C (upd H1 a (WdO C dx l (i + 1))) a dx l ww (i + 1) := hw.go hi
  have bt1 : ButX a H (upd H1 a (WdO C dx l (i + 1))) := fun b o hb ne => by
    rw [upd_ne ne]
    exact bt b o hb ne
  refine ⟨_, rfl, a, dx, _, rfl, hw1.at_, rfl, _, rfl, a, dx, l, ww, i + 1, 1, rfl, hw1, fun n hn => ?_, fun hn d H2 e2 hd2 => kE (i + 1) (by rw [ew, s2 x hx hn]) d H2 (fun b o hb ne => e2 _ _ (bt1 b o hb ne)) hd2⟩
  obtain ⟨t1, t2, t3, t4, t5⟩ := s3 x n hx hn
  have hw2 : WdAt C (upd (upd H1 a (WdO C dx l (i + 1))) a (WdO C dx l (i + 1 + 1))) a dx l ww (i + 1 + 1) := hw1.go t5
  have hd2 : upd (upd H1 a (WdO C dx l (i + 1))) a (WdO C dx l (i + 1 + 1)) c = some (.dK (ents acc)) := by
    rw [upd_ne ca, upd_ne ca]
    exact hd
  have nin : ¬ (acc.any fun t => decide (t.1 = x)) = true := fun z => by
    obtain ⟨t, ht, et⟩ := List.any_eq_true.mp z
    have et := of_decide_eq_true et
    rcases up t ht with h | h
    · rw [← h, et] at t4
      exact List.lt_irrefl _ t4
    · rw [et] at h
      exact List.lt_irrefl _ (List.lt_trans h t4)
  have en : putK (ents acc) (Sum.inr x) (V.int (n : Nat)) = ents (acc ++ [(x, ((n : Nat) : Int))]) := by
    rw [← ents_put]
    unfold putR
    rw [if_neg nin]
  refine ⟨_, rfl, _, rfl, c, _, rfl, DPut.k (k := Sum.inr x) hd2 (by unfold ents; rw [List.length_map, sizeLine_eq]; have := hw.few; omega), kN (ww.length - (i + 2)) _ _ (acc ++ [(x, ((n : Nat) : Int))]) x (i + 2) (by omega) ⟨rfl, rfl, fun b o hb ne => ?_, by rw [upd_same, en], ⟨by rw [upd_ne ca.symm]; exact hw2.at_, by rw [upd_ne cl.symm]; exact hw2.ls, t5, hw.few, hw.fine⟩, by rw [ew, t1], by rw [er, t2, List.append_assoc]; rfl, .inr ⟨by simp, t3⟩, fun t ht => ?_, by rw [List.length_append]; show 2 * (acc.length + 1) ≤ i + 2; omega⟩⟩
  · rw [upd_ne (ne_of_none hb hc), upd_ne ne, upd_ne ne]
    exact bt b o hb ne
  · rcases List.mem_append.mp ht with ht | ht
    · right
      rcases up t ht with h | h
      · rw [h]
        exact t4
      · exact List.lt_trans h t4
    · left
      rw [List.mem_singleton.mp ht]
section
variable {P : Program} {w : World} {K : PySem.W.Frag} {mg : Str → Option Value} {base : Heap} {C CB f fI f1 f2 f3 f4 : Addr} {fd fdI fd1 fd2 fd3 fd4 : FuncData} {dvs : List V}
theorem ok_tnums (F : FunD K "take_numbers" "Words.take_numbers" (defArgs (wmeth 8)) (defBody (wmeth 8)) (defScope (wmeth 8)) [.non] [] f fd) (S : WdC K C) (m2 : Meth K C "word_now" f2) (G2 : FnOk P w K mg base CX0 2 f2 fd2 ["self"] (spNow C)) (b2 : Binds K fd2 ["self"] [])
    (m3 : Meth K C "take_name" f3) (G3 : FnOk P w K mg base (L2.CX P w) 4 f3 fd3 ["self", "least", "behind"] (spTName C CB)) (b3 : Binds K fd3 ["self", "least", "behind"] [])
    (m4 : Meth K C "take_number" f4) (G4 : FnOk P w K mg base (L2.CX P w) 4 f4 fd4 ["self", "least"] (spTNum C CB)) (b4 : Binds K fd4 ["self", "least"] []) : FnOk P w K mg base (L2.CX P w) 5 f fd ["self", "least", "sign"] (spTNums C CB) := by
  have nd := scTNums.nd
  refine FunD.ok (CX := L2.CX P w) F scTNums (fun vs H Q E h => ?_) (fun cdv A outer s H vs Q E hr h => ?_)
  · obtain ⟨a, dx, l, ww, i, rfl, _⟩ := h
    rfl
  · obtain ⟨a, dx, l, ww, i0, rfl, h, lt, q1, q2⟩ := h
    have hu := hu_of hr
    refine ⟨_, pss_cons (ps_set (i := 3) nd rfl (Or.inl rfl) pe_dnewK) (pss_cons (ps_set (i := 4) nd rfl (Or.inl rfl) pe_str)
      (pss_cons (ps_while (passes_of rfl) (PW.pt (pw_or (pt_cmpR op_eq (pv 4) pe_str (nomark _)) (pw_or1 (pt_cmpR op_notIn_seq (pe_meth0 (pv 0) S.cl m2 G2 (hr.mono (by decide)) b2 .nil pass0) (pe_tup (pa_cons pe_non (pa_cons (pv 2) pa_nil))) (by rfl)))))
        (pss_cons (ps_set (i := 4) nd rfl (Or.inl rfl) (pe_meth (E := E) (pv 0) S.cl m3 G3 hr b3 .nil (passes_call (W := fun cls d _ H => E cls d H) (takes_of rfl rfl rfl rfl) (fun _ _ _ _ z => z)) (pa_cons pe_str (pa_cons (pv 4) pa_nil))))
          (pss_one (ps_dput hu (pv 3) (pv 4) (pe_meth (E := E) (pv 0) S.cl m4 G4 hr b4 .nil (passes_call (W := fun cls d _ H => E cls d H) (takes_of rfl rfl rfl rfl) (fun _ _ _ _ z => z)) (pa_cons (pv 1) pa_nil)) rfl))))
      (pss_one (ps_ret (pv 3))))), ?_⟩
    intro c hc
    have e0 := Ex.new (o := .dK []) hc
    have ca : c ≠ a := (ne_of_none h.at_ hc).symm
    have cl : c ≠ l := (ne_of_none h.ls hc).symm
    refine ⟨fun μ σ H' => ∃ (acc : Fk.Row) (name : Str) (i : Nat), TurnI C a dx l c H ww i0 μ σ H' acc name i, ⟨_, [], "", i0, rfl, rfl, fun b o hb _ => e0 _ _ hb, upd_same, h.ex e0, rfl, rfl, .inl ⟨rfl, rfl, rfl⟩, fun t ht => (nomatch ht), Nat.zero_le _⟩, fun μ σ H' hW => ?_⟩
    obtain ⟨acc, name, i, T⟩ := hW
    have T' := T
    obtain ⟨rfl, rfl, bt, hd, hw, ew, er, st, up, few⟩ := T'
    have body : ∀ H1, Ex H' H1 → i < ww.length → ∃ N : L2.St → Hp → Prop, (∀ σ' H2, N σ' H2 → ∃ m', m' < ww.length - i ∧ ∃ (acc : Fk.Row) (name : Str) (i : Nat), TurnI C a dx l c H ww i0 m' σ' H2 acc name i) ∧
      ∀ D : Ends, D.nx = N → tSeq (tAsg (tMeth C "take_name" (spTName C CB) [] E (tVar 0) (tCons (tC (.str "")) (tCons (tVar 4) tNil))) (gName 4)) (sDPut (tVar 3) (tVar 4) (tMeth C "take_number" (spTNum C CB) [] E (tVar 0) (tCons (tVar 1) tNil))) D [some (.ref a), some (.int 1), some .non, some (.ref c), some (.str name)] H1 := fun H1 e1 hi =>
      ⟨fun σ' H2 => ∃ m', m' < ww.length - i ∧ ∃ (acc : Fk.Row) (name : Str) (i : Nat), TurnI C a dx l c H ww i0 m' σ' H2 acc name i, fun _ _ z => z, fun D eD => turn_ok (μ := ww.length - i) ⟨rfl, rfl, fun b o hb ne => e1 _ _ (bt b o hb ne), e1 _ _ hd, hw.ex e1, ew, er, st, up, few⟩ hc hi (fun m σ2 H2 acc2 name2 i2 lt T2 => by rw [eD]; exact ⟨m, lt, acc2, name2, i2, T2⟩) q2⟩
    rcases st with ⟨rfl, rfl, rfl⟩ | ⟨ne, nb⟩
    · obtain ⟨N, hN, hb⟩ := body H' (Ex.refl H') lt
      exact ⟨_, rfl, rfl, _, rfl, N, hN, hb _ rfl⟩
    · have n0 : decide (V.str name = V.str "") = false := decide_eq_false fun z => by
        have : name = "" := V.str.inj z
        rw [this] at nb
        revert nb
        decide +kernel
      refine ⟨_, rfl, rfl, _, rfl, ?_⟩
      rw [n0]
      refine ⟨_, rfl, a, dx, _, rfl, hw.at_, rfl, a, dx, l, ww, i, rfl, hw, _, rfl, by show 2 ≤ sizeLine; decide, fun t ht => ?_⟩
      refine ⟨t, [.non, .non], rfl, .inr (SqT.of upd_same), ?_, rfl, _, rfl, ?_⟩
      · unfold nowV
        cases ww[i]? <;> rfl
      have et := Ex.new (o := .tup [.non, .non]) ht
      cases e : ww[i]? with
      | some x =>
        rw [now_some e]
        obtain ⟨N, hN, hb⟩ := body _ et (lt_up e)
        exact ⟨N, hN, hb _ rfl⟩
      | none =>
        rw [now_none e]
        have il : i = ww.length := by
          have := List.getElem?_eq_none_iff.mp e
          have := hw.le
          omega
        subst il
        have dn : ww.drop ww.length = [] := List.drop_length
        rw [dn] at ew er
        refine ⟨_, rfl, q1 ew c _ (fun b o hb ne => et _ _ (bt b o hb ne)) hc ?_ (hw.ex et)⟩
        rw [er]
        show _ = some (HO.dK (ents (acc ++ [])))
        rw [List.append_nil]
        exact et _ _ hd
end
end Wd


set_option Elab.async false
set_option linter.all false
set_option maxRecDepth 100000
set_option maxHeartbeats 4000000
/-! take_amounts, Words(..), Side.read. -/
namespace Wd
open PySem PySem.NumText PySem.Spec PyProof.Rows L2 EvP Cm Fk
open Dg hiding numT
theorem Asc.nod {prev : Str} {ts : Fk.Row} (h : Asc prev ts) : (ts.map (·.1)).Nodup := (List.pairwise_cons.mp h.up).2.imp fun {a b} hab e => by
  rw [e] at hab
  exact List.lt_irrefl _ hab
theorem Asc.good {prev : Str} {ts : Fk.Row} (h : Asc prev ts) (few : ts.length < 64) : Good ts where
  nod := h.nod
  nm := fun t ht => ⟨_, rfl, by have := name_len (h.nm t ht); rw [sizeLine_eq]; omega, h.nm t ht⟩
  am := fun t ht => Int.le_of_lt (h.am t ht)
  few := few
theorem lookup_at : ∀ {kvs : Fk.Row} {t : Str × Int}, (kvs.map (·.1)).Nodup → t ∈ kvs → amt kvs t.1 = t.2
  | (m, b) :: r, t, n, h => by
    obtain ⟨n1, n2⟩ := List.nodup_cons.mp n
    unfold amt
    rcases List.mem_cons.mp h with rfl | h
    · simp [List.lookup]
    · have ne : t.1 ≠ m := fun z => n1 (by show m ∈ r.map (·.1); rw [← z]; exact List.mem_map_of_mem (f := Prod.fst) h)
      have e : (t.1 == m) = false := beq_eq_false_iff_ne.mpr ne
      simp only [List.lookup, e]
      exact lookup_at n2 h
theorem Asc.told {prev : Str} {ts : Fk.Row} (h : Asc prev ts) : told ts = ts := by
  have pw : (ts.map (·.1)).Pairwise leS := (List.pairwise_cons.mp h.up).2.imp fun hab => by
    unfold leS
    exact List.not_lt.mp fun z => List.lt_irrefl _ (List.lt_trans hab z)
  have es : srt (ts.map (·.1)) = ts.map (·.1) := List.Perm.eq_of_pairwise (le := leS) (fun _ _ _ _ a b => leS_anti a b) (srt_pairwise _) pw (srt_perm _)
  have ea : asc ts = ts := by
    unfold asc
    rw [es, List.map_map]
    have : ∀ l : Fk.Row, (∀ t ∈ l, amt ts t.1 = t.2) → l.map ((fun n => (n, amt ts n)) ∘ fun t : Str × Int => t.1) = l := fun l => by
      induction l with
      | nil => intro _; rfl
      | cons t r ih =>
        intro hl
        rw [List.map_cons, ih fun u hu => hl u (.tail _ hu)]
        show (t.1, amt ts t.1) :: r = _
        rw [hl t (.head _)]
    exact this ts fun t ht => lookup_at h.nod ht
  unfold Fk.told
  rw [ea]
  exact List.filter_eq_self.mpr fun t ht => decide_eq_true (h.am t ht)
def spTAmts (C CB : Addr) : Sp := fun vs H Q E => ∃ (a dx l : Addr) (ww : List Str), vs = [.ref a, .non] ∧ WdAt C H a dx l ww 0 ∧ 0 < ww.length ∧
  (ww.head? = some ("-" : Str) → ∀ d H', ButX a H H' → H d = none → H' d = some (.dK []) → WdAt C H' a dx l ww 1 → Q (.ref d) H') ∧
  (ww.head? ≠ some ("-" : Str) → wr "" 0 ww = none → ∀ d H', ButX a H H' → H d = none → H' d = some (.dK (ents (rows ww))) → WdAt C H' a dx l ww ww.length → Q (.ref d) H') ∧
  (ww.head? ≠ some ("-" : Str) → ∀ k, wr "" 0 ww = some k → ∀ d H', ButX a H H' → H' d = some (.xd (badF k)) → E (.ref CB) (some d) H')
def spWInit (K : PySem.W.Frag) (C CB : Addr) : Sp := fun vs H Q E => ∃ (x dx : Addr) (v : V), vs = [.ref x, v] ∧ H x = some (.ins C dx []) ∧
  ((∃ z, v = .str z ∧ z.length ≤ 9000 ∧ ∀ l H', ButX x H H' → WdAt C H' x dx l (ws z) 0 → Q .non H') ∨
   (∃ t, TyX K H v t ∧ PySem.W.kitOne K t (.type "str") = some false ∧ ∀ d H', ButX x H H' → H' d = some (.xd (badF 0)) → E (.ref CB) (some d) H'))
abbrev sTAmts : Stmt := top 30
theorem scTAmts : FnScope ["words", "sign"] ["words", "sign"] (defScope sTAmts) := ⟨rfl, rfl, rfl, by decide +kernel, rfl, by decide +kernel, by decide +kernel⟩
theorem scWInit : FnScope ["self", "text"] ["self", "text"] (defScope (wmeth 0)) := ⟨rfl, rfl, rfl, by decide +kernel, rfl, by decide +kernel, by decide +kernel⟩
section
variable {P : Program} {w : World} {K : PySem.W.Frag} {mg : Str → Option Value} {base : Heap} {C CB f fI f1 f2 f3 f4 : Addr} {fd fdI fd1 fd2 fd3 fd4 : FuncData} {dvs : List V}
theorem ok_tamts (F : FunD K "take_amounts" "take_amounts" (defArgs sTAmts) (defBody sTAmts) (defScope sTAmts) [.non] [] f fd) (S : WdC K C) (m1 : Meth K C "take_dash" f1) (G1 : FnOk P w K mg base CX0 3 f1 fd1 ["self"] (spDash C)) (b1 : Binds K fd1 ["self"] [])
    (m2 : Meth K C "take_numbers" f2) (G2 : FnOk P w K mg base (L2.CX P w) 5 f2 fd2 ["self", "least", "sign"] (spTNums C CB)) (b2 : Binds K fd2 ["self", "least", "sign"] []) : FnOk P w K mg base (L2.CX P w) 6 f fd ["words", "sign"] (spTAmts C CB) := by
  refine FunD.ok (CX := L2.CX P w) F scTAmts (fun vs H Q E h => ?_) (fun cdv A outer s H vs Q E hr h => ?_)
  · obtain ⟨a, dx, l, ww, rfl, _⟩ := h
    rfl
  · obtain ⟨a, dx, l, ww, rfl, h, lt, q1, q2, q3⟩ := h
    refine ⟨_, pss_cons (ps_if (pt_val (pe_meth0 (pv 0) S.cl m1 G1 (hr.mono (by decide)) b1 .nil pass0)) (pss_one (ps_ret pe_dnewK)) pss_nil)
      (pss_one (ps_ret (pe_meth (E := E) (pv 0) S.cl m2 G2 hr b2 .nil (passes_call (W := fun cls d _ H => E cls d H) (takes_of rfl rfl rfl rfl) (fun _ _ _ _ z => z)) (pa_cons pe_int (pa_cons (pv 1) pa_nil))))), ?_⟩
    have e0 : ww[0]? = ww.head? := by
      cases ww <;> rfl
    refine ⟨_, rfl, a, dx, _, rfl, h.at_, rfl, a, dx, l, ww, 0, rfl, h, fun hd => ⟨true, rfl, ?_⟩, fun hd => ⟨false, rfl, ?_⟩⟩
    · rw [e0] at hd
      intro c hc
      have h1 := h.go (j := 1) lt
      have e1 := Ex.new (o := .dK []) hc
      have hc0 : H c = none := by
        rw [upd_ne (ne_of_none h1.at_ hc).symm] at hc
        exact hc
      exact q1 hd c _ (fun b o hb ne => e1 _ _ (by rw [upd_ne ne]; exact hb)) hc0 upd_same (h1.ex e1)
    · rw [e0] at hd
      exact ⟨_, rfl, a, dx, _, rfl, h.at_, rfl, _, rfl, a, dx, l, ww, 0, rfl, h, lt, fun hw => q2 hd hw, fun k hw => q3 hd k hw⟩
theorem ok_winit (F : Fun K "__init__" "Words.__init__" (wmeth 0) f fd) (S : WdC K C) (T : Fk.Blt mg) (L : BadC P w K mg base CB fI fdI) : FnOk P w K mg base (L2.CX P w) 3 f fd ["self", "text"] (spWInit K C CB) := by
  have nd := scWInit.nd
  refine F.okX scWInit (fun vs H Q E h => ?_) (fun cdv A outer s H vs Q E hr h => ?_)
  · obtain ⟨x, dx, v, rfl, _⟩ := h
    rfl
  · obtain ⟨x, dx, v, rfl, hx, h⟩ := h
    refine ⟨_, pss_cons (ps_if (pt_not (pt_val (pe_callB call_isi (by rfl) T.isi (by decide +kernel) (pa_cons (pv 1) (pa_cons (pe_bltn (v := .ty "str") (by rfl) T.str (by decide +kernel) rfl) pa_nil)))))
        (pss_one (ps_raise (W := fun cls d _ H => E cls d H) rfl (takes_of rfl rfl rfl rfl) (pmk_oex (CX := CX0) L.T L.iC L.tI L.G (hr.mono (by decide)) L.b .nil pass0 (by rfl) L.g (pa_cons pe_int (pa_cons pe_int pa_nil))))) pss_nil)
      (pss_cons (ps_fld (pv 0) (pe_split (pv 1) pe_str) rfl) (pss_one (ps_fld (pv 0) pe_int rfl))), ?_⟩
    rcases h with ⟨z, rfl, hz, q⟩ | ⟨t, ty, kt, q⟩
    · refine ⟨_, rfl, _, _, _, _, true, rfl, .ty _, .base (.str z), kit_ty (by decide +kernel), _, rfl, ?_⟩
      refine ⟨_, rfl, ⟨_, rfl⟩, z, " ", rfl, rfl, rfl, by rw [sizeLine_eq]; omega, fun l hl => ?_⟩
      have xl : x ≠ l := ne_of_none hx hl
      refine ⟨_, rfl, x, C, dx, [], rfl, by rw [upd_ne xl]; exact hx, S.cl, S.nW, by show 0 < 1000; decide, ?_⟩
      refine ⟨_, rfl, x, C, dx, _, rfl, upd_same, S.cl, S.nA, by show 1 < 1000; decide, q l _ (fun b o hb ne => ?_) ⟨upd_same, ?_, Nat.zero_le _, ?_, fun p hp => ?_⟩⟩
      · rw [upd_ne ne, upd_ne ne, upd_ne (ne_of_none hb hl)]
        exact hb
      · rw [upd_ne xl.symm, upd_ne xl.symm]
        exact upd_same
      · rw [ws_len]
        have := List.count_le_length (a := 32) (l := tl z)
        rw [len_cps] at this
        omega
      · have := (ws_mem hp).2.1
        omega
    · refine ⟨_, rfl, _, _, _, _, false, rfl, .ty _, ty, kt, _, rfl, ?_⟩
      exact raise_bad (k := 0) L EvP.cst fun d H' e hd => q d H' (fun b o hb _ => e _ _ hb) hd
end
end Wd

set_option Elab.async false
set_option linter.all false
set_option maxRecDepth 100000
set_option maxHeartbeats 4000000
/-! take_filled: the words of a filling. -/
namespace Fi
open PySem PySem.NumText PySem.Spec PyProof.Rows L2 EvP Cm Fk DtE Tb XG Wd
open Dg hiding numT
/-- one word: the names that stand behind it, none if it cannot stand -/
def stF (i : Nat) (one two x : Str) : Option (Str × Str) :=
  if i % 4 = 0 then (if okG one "" x = true then some (x, if x = one then two else "") else none)
  else if i % 4 = 1 then (if okG "" two x = true then some (one, x) else none)
  else if i % 4 = 2 then (if amtB x = true then some (one, two) else none)
  else (if x = ";" then some (one, two) else none)
/-- the first word that cannot stand, or how many there are if one lacks -/
def wrF (one two : Str) (i : Nat) : List Str → Option Nat
  | [] => if i % 4 = 3 then none else some i
  | x :: r => match stF i one two x with
    | none => some i
    | some p => wrF p.1 p.2 (i + 1) r
/-- the amounts that the words tell -/
def rowsF : List Str → TRow
  | a :: b :: n :: [] => [(key2 a b, (valT n : Int))]
  | a :: b :: n :: _ :: r => (key2 a b, (valT n : Int)) :: rowsF r
  | _ => []
theorem rowsF_cons (a b n : Str) (l : List Str) : rowsF (a :: b :: n :: l) = (key2 a b, (valT n : Int)) :: rowsF (l.drop 1) := by
  cases l with
  | nil =>
    show [(key2 a b, (valT n : Int))] = (key2 a b, (valT n : Int)) :: rowsF []
    unfold rowsF
    rfl
  | cons s r => rfl
def wrongF (l : List Str) : Option Nat := if l.head? = some ("-" : Str) then (if 1 < l.length then some 1 else none) else wrF "" "" 0 l
def readF (l : List Str) : TRow := if l.head? = some ("-" : Str) then [] else rowsF l
section
variable {ww : List Str} {i : Nat} {o t x : Str}
theorem wrF_bad (e : ww[i]? = some x) (h : stF i o t x = none) : wrF o t i (ww.drop i) = some i := by
  obtain ⟨hi, ex⟩ := List.getElem?_eq_some_iff.mp e
  rw [List.drop_eq_getElem_cons hi, ex]
  unfold wrF
  rw [h]
theorem wrF_some {p : Str × Str} (e : ww[i]? = some x) (h : stF i o t x = some p) : wrF o t i (ww.drop i) = wrF p.1 p.2 (i + 1) (ww.drop (i + 1)) := by
  obtain ⟨hi, ex⟩ := List.getElem?_eq_some_iff.mp e
  rw [List.drop_eq_getElem_cons hi, ex]
  conv => lhs; unfold wrF
  rw [h]
theorem wrF_end (e : ww[i]? = none) (h : i % 4 ≠ 3) : wrF o t i (ww.drop i) = some i := by
  rw [List.drop_eq_nil_of_le (List.getElem?_eq_none_iff.mp e)]
  unfold wrF
  rw [if_neg h]
theorem st0 (h : i % 4 = 0) : stF i o t x = if okG o "" x = true then some (x, if x = o then t else "") else none := by
  unfold stF
  rw [if_pos h]
theorem st1 (h : i % 4 = 1) : stF i o t x = if okG "" t x = true then some (o, x) else none := by
  unfold stF
  rw [if_neg (by omega), if_pos h]
theorem st2 (h : i % 4 = 2) : stF i o t x = if amtB x = true then some (o, t) else none := by
  unfold stF
  rw [if_neg (by omega), if_neg (by omega), if_pos h]
theorem st3 (h : i % 4 = 3) : stF i o t x = if x = ";" then some (o, t) else none := by
  unfold stF
  rw [if_neg (by omega), if_neg (by omega), if_neg (by omega)]
/-- what a pair and its number make of the words -/
theorem wrF_pair (h4 : i % 4 = 0) :
    (nowG o "" ww i = none → wrF o t i (ww.drop i) = some i) ∧
    (∀ x, nowG o "" ww i = some x → nowG "" (if x = o then t else "") ww (i + 1) = none → wrF o t i (ww.drop i) = some (i + 1)) ∧
    (∀ x y, nowG o "" ww i = some x → nowG "" (if x = o then t else "") ww (i + 1) = some y → nowA 1 ww (i + 2) = none → wrF o t i (ww.drop i) = some (i + 2)) ∧
    (∀ x y n, nowG o "" ww i = some x → nowG "" (if x = o then t else "") ww (i + 1) = some y → nowA 1 ww (i + 2) = some n →
      wrF o t i (ww.drop i) = wrF x y (i + 3) (ww.drop (i + 3)) ∧ rowsF (ww.drop i) = (key2 x y, (n : Int)) :: rowsF (ww.drop (i + 4)) ∧ i + 3 ≤ ww.length) := by
  have s0 : ∀ x, nowG o "" ww i = some x → wrF o t i (ww.drop i) = wrF x (if x = o then t else "") (i + 1) (ww.drop (i + 1)) := fun x hx => by
    obtain ⟨e, k⟩ := nowG_up hx
    exact wrF_some (p := (x, if x = o then t else "")) e (by rw [st0 h4, if_pos k])
  have s1 : ∀ x y, nowG o "" ww i = some x → nowG "" (if x = o then t else "") ww (i + 1) = some y → wrF o t i (ww.drop i) = wrF x y (i + 2) (ww.drop (i + 2)) := fun x y hx hy => by
    obtain ⟨e, k⟩ := nowG_up hy
    rw [s0 x hx]
    exact wrF_some (p := (x, y)) e (by rw [st1 (by omega), if_pos k])
  refine ⟨fun h => ?_, fun x hx h => ?_, fun x y hx hy h => ?_, fun x y n hx hy h => ?_⟩
  · cases e : ww[i]? with
    | none => exact wrF_end e (by omega)
    | some x =>
      refine wrF_bad e ?_
      rw [st0 h4]
      unfold nowG at h
      rw [e] at h
      dsimp only at h
      by_cases c : okG o "" x = true
      · rw [if_pos c] at h
        cases h
      · rw [if_neg c]
  · rw [s0 x hx]
    cases e : ww[i + 1]? with
    | none => exact wrF_end e (by omega)
    | some y =>
      refine wrF_bad e ?_
      rw [st1 (by omega)]
      unfold nowG at h
      rw [e] at h
      dsimp only at h
      by_cases c : okG "" (if x = o then t else "") y = true
      · rw [if_pos c] at h
        cases h
      · rw [if_neg c]
  · rw [s1 x y hx hy]
    cases e : ww[i + 2]? with
    | none => exact wrF_end e (by omega)
    | some z =>
      refine wrF_bad e ?_
      rw [st2 (by omega)]
      unfold nowA at h
      rw [e] at h
      dsimp only at h
      rw [amt_num] at h
      by_cases c : amtB z = true
      · rw [if_pos c] at h
        cases h
      · rw [if_neg c]
  · rw [s1 x y hx hy]
    unfold nowA at h
    cases e : ww[i + 2]? with
    | none =>
      rw [e] at h
      cases h
    | some z =>
      rw [e] at h
      dsimp only at h
      rw [amt_num] at h
      by_cases c : amtB z = true
      · rw [if_pos c] at h
        cases Option.some.inj h
        obtain ⟨h0, x0⟩ := List.getElem?_eq_some_iff.mp (nowG_up hx).1
        obtain ⟨h1, x1⟩ := List.getElem?_eq_some_iff.mp (nowG_up hy).1
        obtain ⟨h2, x2⟩ := List.getElem?_eq_some_iff.mp e
        refine ⟨wrF_some (p := (x, y)) e (by rw [st2 (by omega), if_pos c]), ?_, by omega⟩
        rw [List.drop_eq_getElem_cons h0, List.drop_eq_getElem_cons h1, List.drop_eq_getElem_cons h2, x0, x1, x2, rowsF_cons, List.drop_drop]
      · rw [if_neg c] at h
        cases h
end
end Fi

set_option Elab.async false
set_option linter.all false
set_option maxRecDepth 100000
set_option maxHeartbeats 4000000
/-! take_filled. -/
namespace Fi
open PySem PySem.NumText PySem.Spec PyProof.Rows L2 EvP Cm Fk DtE Tb XG Wd
open Dg hiding numT
/-- pairs that rise, none behind (p, q) -/
structure Ris (acc : TRow) (p q : Str) (i : Nat) : Prop where
  up : ∀ t ∈ acc, ∃ a b, t.1 = key2 a b ∧ (tl a < tl p ∨ (a = p ∧ (tl b < tl q ∨ b = q)))
  nod : (acc.map (·.1)).Nodup
  key : ∀ t ∈ acc, PairK t.1
  pos : ∀ t ∈ acc, 0 < t.2
  few : 4 * acc.length ≤ i + 1
theorem okG_name {lo prev x : Str} (h : okG lo prev x = true) : nameB x = true ∧ ¬ tl x < tl lo ∧ tl prev < tl x := by
  unfold okG at h
  rw [Bool.and_eq_true, Bool.and_eq_true, decide_eq_true_eq, Bool.not_eq_true', decide_eq_false_iff_not] at h
  exact ⟨h.1.1, h.1.2, h.2⟩
theorem tl_eq {a b : Str} (h : tl a = tl b) : a = b := by
  obtain ⟨⟨x⟩⟩ := a
  obtain ⟨⟨y⟩⟩ := b
  cases (show x = y from h)
  rfl
theorem tl_cmp {a b : Str} (h : ¬ tl a < tl b) : a = b ∨ tl b < tl a := by
  by_cases c : tl b < tl a
  · exact .inr c
  · left
    exact tl_eq (List.le_antisymm (List.not_lt.mp c) (List.not_lt.mp h))
theorem nameV_of {x : Str} (h : nameB x = true) : NameV (.str x) := ⟨x, rfl, by have := (name_small h).1; rw [sizeLine_eq]; omega, h⟩
theorem Ris.next {acc : TRow} {p q x y : Str} {n : Nat} {i : Nat} (r : Ris acc p q i) (hx : okG p "" x = true) (hy : okG "" (if x = p then q else "") y = true) (hn : 0 < n) : Ris (acc ++ [(key2 x y, (n : Int))]) x y (i + 4) := by
  obtain ⟨nx, lx, _⟩ := okG_name hx
  obtain ⟨ny, _, ly⟩ := okG_name hy
  have cmp := tl_cmp lx
  have lower : ∀ a b, (tl a < tl p ∨ (a = p ∧ (tl b < tl q ∨ b = q))) → tl a < tl x ∨ (a = x ∧ tl b < tl y) := fun a b h => by
    rcases cmp with e | e
    · subst e
      rw [if_pos rfl] at ly
      rcases h with h | ⟨h, k | k⟩
      · exact .inl h
      · exact .inr ⟨h, List.lt_trans k ly⟩
      · exact .inr ⟨h, by rw [k]; exact ly⟩
    · rcases h with h | ⟨h, _⟩
      · exact .inl (List.lt_trans h e)
      · exact .inl (by rw [h]; exact e)
  refine ⟨fun t ht => ?_, ?_, fun t ht => ?_, fun t ht => ?_, ?_⟩
  · rcases List.mem_append.mp ht with ht | ht
    · obtain ⟨a, b, e, h⟩ := r.up t ht
      refine ⟨a, b, e, ?_⟩
      rcases lower a b h with h | ⟨h, k⟩
      · exact .inl h
      · exact .inr ⟨h, .inl k⟩
    · rw [List.mem_singleton.mp ht]
      exact ⟨x, y, rfl, .inr ⟨rfl, .inr rfl⟩⟩
  · rw [List.map_append, List.nodup_append]
    refine ⟨r.nod, by simp, fun k hk k' hk' e => ?_⟩
    obtain ⟨t, ht, rfl⟩ := List.mem_map.mp hk
    rw [List.mem_singleton.mp hk'] at e
    obtain ⟨a, b, e2, h⟩ := r.up t ht
    have e3 : key2 a b = key2 x y := e2.symm.trans e
    unfold key2 at e3
    have ea := Sum.inr.inj (List.cons.inj e3).1
    have eb := Sum.inr.inj (List.cons.inj (List.cons.inj e3).2).1
    subst ea eb
    rcases lower a b h with h | ⟨_, h⟩
    · exact List.lt_irrefl _ h
    · exact List.lt_irrefl _ h
  · rcases List.mem_append.mp ht with ht | ht
    · exact r.key t ht
    · rw [List.mem_singleton.mp ht]
      exact ⟨x, y, rfl, nameV_of nx, nameV_of ny⟩
  · rcases List.mem_append.mp ht with ht | ht
    · exact r.pos t ht
    · rw [List.mem_singleton.mp ht]
      show (0 : Int) < (n : Int)
      omega
  · rw [List.length_append]
    have := r.few
    show 4 * (acc.length + 1) ≤ i + 4 + 1
    omega
theorem nowA_pos {ww : List Str} {i n : Nat} (h : nowA 1 ww i = some n) : 0 < n := by
  unfold nowA at h
  cases e : ww[i]? with
  | none => rw [e] at h; cases h
  | some x =>
    rw [e] at h
    dsimp only at h
    by_cases c : (numB x && decide (1 ≤ valT x)) = true
    · rw [if_pos c] at h
      cases Option.some.inj h
      rw [Bool.and_eq_true, decide_eq_true_eq] at c
      omega
    · rw [if_neg c] at h
      cases h
theorem butx_none {C a dx l g : Addr} {H H1 : Hp} {ww : List Str} {i : Nat} (h1 : WdAt C H1 a dx l ww i) (bt : ButX a H H1) (n : H1 g = none) : H g = none := by
  cases z : H g with
  | none => rfl
  | some o =>
    exfalso
    by_cases e : g = a
    · rw [e, h1.at_] at n
      cases n
    · rw [bt g o z e] at n
      cases n
theorem butx_new {a g : Addr} {o : HO} {H H1 : Hp} (bt : ButX a H H1) (n : H g = none) : ButX a H (upd H1 g o) := fun b o' hb ne => by
  rw [upd_ne (ne_of_none hb n)]
  exact bt b o' hb ne
theorem butx_at {a : Addr} {o : HO} {H H1 : Hp} (bt : ButX a H H1) : ButX a H (upd H1 a o) := fun b o' hb ne => by
  rw [upd_ne ne]
  exact bt b o' hb ne
theorem butx_ex {a : Addr} {H H1 H2 : Hp} (bt : ButX a H H1) (e : Ex H1 H2) : ButX a H H2 := fun b o' hb ne => e _ _ (bt b o' hb ne)
theorem butx_trans {a : Addr} {H H1 H2 : Hp} (bt : ButX a H H1) (e : ButX a H1 H2) : ButX a H H2 := fun b o' hb ne => e _ _ (bt b o' hb ne) ne
/-- how far the loop is -/
structure TurnF (C a dx l c : Addr) (H : Hp) (ww : List Str) (μ : Nat) (σ : L2.St) (H' : Hp) (acc : TRow) (p q : Str) (i : Nat) : Prop where
  μ : μ = ww.length - i
  σ : ∃ tp, σ = [some (.ref a), some (.ref tp), some (.ref c)] ∧ H' tp = some (.tup [.str p, .str q])
  but : ButX a H H'
  d : H' c = some (.dT (tents acc))
  w : WdAt C H' a dx l ww i
  i4 : i % 4 = 3
  ew : wrF "" "" 0 ww = wrF p q i (ww.drop i)
  er : rowsF ww = acc ++ rowsF (ww.drop (i + 1))
  ris : Ris acc p q i
def spTF (C CB : Addr) : Sp := fun vs H Q E => ∃ (a dx l : Addr) (ww : List Str), vs = [.ref a] ∧ WdAt C H a dx l ww 0 ∧
  (ww[0]? = some ("-" : Str) → ∀ d H', ButX a H H' → H d = none → H' d = some (.dT (tents [])) → WdAt C H' a dx l ww 1 → Q (.ref d) H') ∧
  (ww[0]? ≠ some ("-" : Str) → wrF "" "" 0 ww = none → ∀ p q d H', ButX a H H' → H d = none → H' d = some (.dT (tents (rowsF ww))) → Ris (rowsF ww) p q ww.length → WdAt C H' a dx l ww ww.length → Q (.ref d) H') ∧
  (ww[0]? ≠ some ("-" : Str) → ∀ k, wrF "" "" 0 ww = some k → ∀ d H', ButX a H H' → H' d = some (.xd (badF k)) → E (.ref CB) (some d) H')
abbrev sTF : Stmt := top 37
theorem scTF : FnScope ["words", "pair", "amounts"] ["words"] (defScope sTF) := ⟨rfl, rfl, rfl, by decide +kernel, rfl, by decide +kernel, by decide +kernel⟩
section
variable {P : Program} {w : World} {K : PySem.W.Frag} {mg : Str → Option Value} {base : Heap} {C CB f fD fP fN fO fE B : Addr} {fd fdD fdP fdN fdO fdE : FuncData}
theorem ok_filled (F : Fun K "take_filled" "take_filled" sTF f fd) (S : WdC K C)
    (mD : Meth K C "take_dash" fD) (GD : FnOk P w K mg base CX0 3 fD fdD ["self"] (spDash C)) (bD : Binds K fdD ["self"] [])
    (mP : Meth K C "take_pair" fP) (GP : FnOk P w K mg base (L2.CX P w) 5 fP fdP ["self", "behind"] (spTPair K C CB)) (bP0 : Binds K fdP ["self", "behind"] []) {d1 : List Value} (v1 : Vals [V.ref B] d1) (bP : Binds K fdP ["self", "behind"] d1) (kB : ∀ H, SqT K H B [.str "", .str ""])
    (mN : Meth K C "take_number" fN) (GN : FnOk P w K mg base (L2.CX P w) 4 fN fdN ["self", "least"] (spTNum C CB)) (bN : Binds K fdN ["self", "least"] [])
    (mO : Meth K C "take_one" fO) (GO : FnOk P w K mg base (L2.CX P w) 4 fO fdO ["self", "choices"] (spTOne C CB)) (bO : Binds K fdO ["self", "choices"] [])
    (mE : Meth K C "at_end" fE) (GE : FnOk P w K mg base CX0 1 fE fdE ["self"] (spAtEnd C)) (bE : Binds K fdE ["self"] []) : FnOk P w K mg base (L2.CX P w) 6 f fd ["words"] (spTF C CB) := by
  have nd := scTF.nd
  refine F.okX scTF (fun vs H Q E h => ?_) (fun cdv A outer s H vs Q E hr h => ?_)
  · obtain ⟨a, dx, l, ww, rfl, _⟩ := h
    rfl
  · obtain ⟨a, dx, l, ww, rfl, h, q1, q2, q3⟩ := h
    have hu := hu_of hr
    have px : Passes (L2.CX P w) (cxOf (L2.CX P w) P w K mg base ["words", "pair", "amounts"] "take_filled" (defScope sTF) f cdv A outer s H E) E := passes_call (W := fun cls d _ H => E cls d H) (takes_of rfl rfl rfl rfl) (fun _ _ _ _ z => z)
    refine ⟨_, pss_cons (ps_if (pt_val (pe_meth0 (pv 0) S.cl mD GD (hr.mono (by decide)) bD .nil pass0)) (pss_one (ps_ret pe_dnewT)) pss_nil)
      (pss_cons (ps_set (i := 1) nd rfl (Or.inl rfl) (pe_meth0 (E := E) (dvs := [.ref B]) (pv 0) S.cl mP GP hr bP v1 px))
      (pss_cons (ps_set (i := 2) nd rfl (Or.inl rfl) (pe_dispT hu (pps_cons (pv 1) (pe_meth (E := E) (dvs := []) (pv 0) S.cl mN GN (hr.mono (by decide)) bN .nil px (pa_cons pe_int pa_nil)) pps_nil)))
      (pss_cons (ps_while (passes_of rfl) (pt_not (pt_val (pe_meth0 (pv 0) S.cl mE GE (hr.mono (by decide)) bE .nil pass0)))
        (pss_cons (ps_expr (pe_meth (E := E) (dvs := []) (pv 0) S.cl mO GO (hr.mono (by decide)) bO .nil px (pa_cons (pe_tup (pa_cons pe_str pa_nil)) pa_nil)))
        (pss_cons (ps_set (i := 1) nd rfl (Or.inl rfl) (pe_meth (E := E) (dvs := []) (pv 0) S.cl mP GP hr bP0 .nil px (pa_cons (pv 1) pa_nil)))
        (pss_one (ps_dput hu (pv 2) (pv 1) (pe_meth (E := E) (dvs := []) (pv 0) S.cl mN GN (hr.mono (by decide)) bN .nil px (pa_cons pe_int pa_nil)) rfl)))))
      (pss_one (ps_ret (pv 2)))))), ?_⟩
    refine ⟨_, rfl, a, dx, _, rfl, h.at_, rfl, a, dx, l, ww, 0, rfl, h, fun hd => ?_, fun hd => ?_⟩
    · have hi : 0 + 1 ≤ ww.length := lt_up hd
      have h1 := h.go hi
      have bt1 : ButX a H (upd H a (WdO C dx l (0 + 1))) := butx_at fun b o hb _ => hb
      generalize upd H a (WdO C dx l (0 + 1)) = G at h1 bt1 ⊢
      exact ⟨true, rfl, fun d hn => q1 hd d _ (butx_new bt1 (butx_none h1 bt1 hn)) (butx_none h1 bt1 hn) upd_same (h1.ex (Ex.new hn))⟩
    · refine ⟨false, rfl, ?_⟩
      have q2 := q2 hd
      have q3 := q3 hd
      obtain ⟨w1, w2, w3, w4⟩ := wrF_pair (ww := ww) (i := 0) (o := "") (t := "") rfl
      rw [List.drop_zero] at w1 w2 w3 w4
      refine ⟨_, rfl, a, dx, _, rfl, h.at_, rfl, a, dx, l, B, ww, 0, "", "", rfl, h, kB H, fun x y hx hy tp H1 bt1 nt ht h1 => ?_, fun hn d H' e' hd' => q3 _ (w1 hn) d H' (fun b o hb _ => e' b o hb) hd', fun x hx hn d H' e' hd' => q3 _ (w2 x hx hn) d H' e' hd'⟩
      refine fun c hc => ?_
      have nc := butx_none h1 bt1 hc
      have h1' := h1.ex (Ex.new (o := .dT []) hc)
      have bt1' : ButX a H (upd H1 c (.dT [])) := butx_new bt1 nc
      have dc : upd H1 c (.dT []) c = some (.dT []) := upd_same
      have tc : upd H1 c (.dT []) tp = some (.tup [.str x, .str y]) := by
        rw [upd_ne (ne_of_none ht hc)]
        exact ht
      generalize upd H1 c (.dT []) = G1 at h1' bt1' dc tc ⊢
      refine ⟨_, rfl, _, rfl, a, dx, _, rfl, h1'.at_, rfl, a, dx, l, ww, 2, 1, rfl, h1', fun n hn => ?_, fun hn d H' e' hd' => q3 _ (w3 x y hx hy hn) d H' (butx_ex bt1' e') hd'⟩
      obtain ⟨e1, e2, e3⟩ := w4 x y n hx hy hn
      have ca : c ≠ a := ne_of dc h1'.at_ (fun z => nomatch z)
      have cl : c ≠ l := ne_of dc h1'.ls (fun z => nomatch z)
      have ct : c ≠ tp := ne_of dc tc (fun z => nomatch z)
      have ta : tp ≠ a := ne_of tc h1'.at_ (fun z => nomatch z)
      have h2 := h1'.go e3
      have bt2 : ButX a H (upd G1 a (WdO C dx l 3)) := butx_at bt1'
      have dc2 : upd G1 a (WdO C dx l 3) c = some (.dT []) := by rw [upd_ne ca]; exact dc
      have tc2 : upd G1 a (WdO C dx l 3) tp = some (.tup [.str x, .str y]) := by rw [upd_ne ta]; exact tc
      refine ⟨dc2, key2 x y, tp, _, rfl, tc2, ?_⟩
      generalize upd G1 a (WdO C dx l 3) = G2 at h2 bt2 dc2 tc2 ⊢
      have turn0 : TurnF C a dx l c H ww (ww.length - 3) [some (.ref a), some (.ref tp), some (.ref c)] (upd G2 c (.dT [(key2 x y, .int (n : Nat))])) [(key2 x y, (n : Int))] x y 3 := by
        refine ⟨rfl, ⟨tp, rfl, by rw [upd_ne ct.symm]; exact tc2⟩, butx_new bt2 nc, upd_same, ⟨by rw [upd_ne ca.symm]; exact h2.at_, by rw [upd_ne cl.symm]; exact h2.ls, e3, h2.few, h2.fine⟩, rfl, e1, e2, ?_⟩
        exact Ris.next (acc := []) (p := "") (q := "") (i := 0) ⟨(fun t ht => by cases ht), .nil, (fun t ht => by cases ht), (fun t ht => by cases ht), by simp⟩ (nowG_up hx).2 (nowG_up hy).2 (nowA_pos hn) |> fun r => ⟨r.up, r.nod, r.key, r.pos, by show 4 * 1 ≤ 4; decide⟩
      refine ⟨fun μ σ H' => ∃ acc p q i, TurnF C a dx l c H ww μ σ H' acc p q i, ⟨_, _, _, _, _, turn0⟩, fun μ σ H' hW => ?_⟩
      obtain ⟨acc, p, q, i, T⟩ := hW
      obtain ⟨rfl, ⟨tq, rfl, htq⟩, bt, hdc, hw, i4, ew, er, ris⟩ := T
      refine ⟨_, rfl, a, dx, _, rfl, hw.at_, rfl, a, dx, l, ww, i, rfl, hw, _, rfl, ?_⟩
      by_cases c1 : i = ww.length
      · rw [decide_eq_true c1]
        subst c1
        rw [List.drop_length] at ew
        rw [List.drop_eq_nil_of_le (Nat.le_succ _)] at er
        have er2 : rowsF ww = acc := er.trans (List.append_nil _)
        have ew2 : wrF "" "" 0 ww = none := ew.trans (if_pos i4)
        rw [← er2] at hdc ris
        exact ⟨_, rfl, q2 ew2 p q c _ bt nc hdc ris hw⟩
      · rw [decide_eq_false c1]
        have hlt : i < ww.length := by
          have := hw.le
          omega
        refine ⟨fun σ' H2 => ∃ m', m' < ww.length - i ∧ ∃ acc p q i, TurnF C a dx l c H ww m' σ' H2 acc p q i, fun σ' H2 ⟨m', lt, z⟩ => ⟨m', lt, z⟩, ?_⟩
        have e0 : ww[i]? = some ww[i] := List.getElem?_eq_getElem hlt
        refine ⟨_, rfl, a, dx, _, rfl, hw.at_, rfl, by rw [sizeLine_eq]; show 1 ≤ 16777216; decide, fun ct hct => ⟨a, dx, l, ct, ww, i, ";", rfl, hw.ex (Ex.new hct), upd_same, fun hs => ?_, fun hn d H2 e' hd' => q3 i ?_ d H2 (butx_ex (butx_ex bt (Ex.new hct)) e') hd'⟩⟩
        case refine_2 =>
          rw [ew]
          refine wrF_bad e0 ?_
          rw [st3 i4, if_neg]
          intro z
          rw [e0, z] at hn
          exact hn rfl
        have ca : c ≠ a := ne_of hdc hw.at_ (fun z => nomatch z)
        have cl : c ≠ l := ne_of hdc hw.ls (fun z => nomatch z)
        have ta : tq ≠ a := ne_of htq hw.at_ (fun z => nomatch z)
        have hw1 := (hw.ex (Ex.new (o := .tup [.str ";"]) hct)).go (lt_up hs)
        have bt1 : ButX a H (upd (upd H' ct (.tup [.str ";"])) a (WdO C dx l (i + 1))) := butx_at (butx_ex bt (Ex.new hct))
        have dc1 : upd (upd H' ct (.tup [.str ";"])) a (WdO C dx l (i + 1)) c = some (.dT (tents acc)) := by
          rw [upd_ne ca]
          exact Ex.new hct _ _ hdc
        have tq1 : upd (upd H' ct (.tup [.str ";"])) a (WdO C dx l (i + 1)) tq = some (.tup [.str p, .str q]) := by
          rw [upd_ne ta]
          exact Ex.new hct _ _ htq
        generalize upd (upd H' ct (.tup [.str ";"])) a (WdO C dx l (i + 1)) = G at hw1 bt1 dc1 tq1 ⊢
        have ew1 : wrF "" "" 0 ww = wrF p q (i + 1) (ww.drop (i + 1)) := by
          rw [ew]
          exact wrF_some (p := (p, q)) hs (by rw [st3 i4, if_pos rfl])
        obtain ⟨w1, w2, w3, w4⟩ := wrF_pair (ww := ww) (i := i + 1) (o := p) (t := q) (by omega)
        rw [← ew1] at w1 w2 w3 w4
        refine ⟨_, rfl, a, dx, _, rfl, hw1.at_, rfl, _, rfl, a, dx, l, tq, ww, i + 1, p, q, rfl, hw1, SqT.of tq1, fun x y hx hy tp H3 bt3 nt ht h3 => ?_, fun hn d H2 e' hd' => q3 _ (w1 hn) d H2 (butx_ex bt1 e') hd', fun x hx hn d H2 e' hd' => q3 _ (w2 x hx hn) d H2 (butx_trans bt1 e') hd'⟩
        refine ⟨_, rfl, a, dx, _, rfl, h3.at_, rfl, a, dx, l, ww, i + 1 + 2, 1, rfl, h3, fun n hn => ?_, fun hn d H2 e' hd' => q3 _ (w3 x y hx hy hn) d H2 (butx_ex (butx_trans bt1 bt3) e') hd'⟩
        obtain ⟨e1, e2, e3⟩ := w4 x y n hx hy hn
        have dc3 := bt3 c _ dc1 ca
        have tpa : tp ≠ a := ne_of ht h3.at_ (fun z => nomatch z)
        have ctp : c ≠ tp := ne_of dc3 ht (fun z => nomatch z)
        have h4 := h3.go e3
        have bt4 : ButX a H (upd H3 a (WdO C dx l (i + 1 + 2 + 1))) := butx_at (butx_trans bt1 bt3)
        have dc4 : upd H3 a (WdO C dx l (i + 1 + 2 + 1)) c = some (.dT (tents acc)) := by rw [upd_ne ca]; exact dc3
        have tp4 : upd H3 a (WdO C dx l (i + 1 + 2 + 1)) tp = some (.tup [.str x, .str y]) := by rw [upd_ne tpa]; exact ht
        have r2 := ris.next (nowG_up hx).2 (nowG_up hy).2 (nowA_pos hn)
        have h4' : WdAt C (upd H3 a (WdO C dx l (i + 1 + 2 + 1))) a dx l ww (i + 4) := h4
        generalize upd H3 a (WdO C dx l (i + 1 + 2 + 1)) = G4 at h4' bt4 dc4 tp4 ⊢
        refine ⟨_, rfl, _, rfl, c, _, rfl, DPut.t (k := key2 x y) dc4 tp4 (by unfold tents; rw [List.length_map, sizeLine_eq]; have := ris.few; have := hw.few; omega), ww.length - (i + 4), by omega, acc ++ [(key2 x y, (n : Int))], x, y, i + 4, ?_⟩
        refine ⟨rfl, ⟨tp, rfl, by rw [upd_ne ctp.symm]; exact tp4⟩, butx_new bt4 nc, by rw [upd_same, tents_put r2.nod], ⟨by rw [upd_ne ca.symm]; exact h4'.at_, by rw [upd_ne cl.symm]; exact h4'.ls, h4'.le, h4'.few, h4'.fine⟩, by omega, e1, ?_, r2⟩
        rw [er, e2, List.append_assoc]
        rfl
end
end Fi

set_option Elab.async false
set_option linter.all false
set_option maxRecDepth 100000
set_option maxHeartbeats 4000000
/-! cls(..), C.m(..), C.m(k = v) where the def keeps its promise while no object is being shown, and may raise. -/
namespace XG
open PySem PySem.Spec PyProof.Rows L2
section
variable {X : Cx} {k i : Nat} {x : Str} {f C p : Addr} {fd : FuncData} {ps ks : List Str} {mc : Value} {sp : Sp} {E : XK} {o e : Expr} {es : List Expr} {m : Str} {pos apos np : Pos} {ta : TE} {t tk : TA} {pl : Sem Bool} {kws : List Keyword} {gg : List Value → List Value → List Value} {gV : List V → List V → List V}
/-- cls(..), a local name -/
def tMakeVX (i : Nat) (C : Addr) (sp : Sp) (E : XK) (t : TA) : TE := fun σ H Q => σ[i]? = some (some (.ref C)) ∧ tMakeGX C sp E t σ H Q
theorem pe_makeVX (M : Mk X.K C f) (F : FnG X.prog X.w X.K X.mg X.base (L2.CX X.prog X.w) k f fd ps sp) (len : ∀ vs H Q E, sp vs H Q E → vs.length = ps.length) (gd : X.A.guards = some []) (hr : Room (k + 1) X.A) (hb : Binds X.K fd ps []) (hx : ∀ σ, PassesAt (L2.CX X.prog X.w) X σ E)
    (hN : X.N[i]? = some x) (hv : Vis X.env.scope x) (ha : PA X (e :: es) t) (hd : (x == ("__debug__" : Str)) = false := by decide) (hcd : (x == ("__classdict__" : Str)) = false := by decide)
    (he : starEach (e :: es) X.env = (false, eval e X.env) :: starEach es X.env := by rfl) (hpl : (backTo pos (starEach es X.env)).any (·.1) = false := by rfl) : PE X (.Call (.Name x np) (e :: es) [] pos) (tMakeVX i C sp E t) := by
  refine ⟨fun pins s σ H Q I h => ?_⟩
  obtain ⟨hs, h⟩ := h
  refine wpAny_Call_Name_kw (thn ((pe_var (pos := np) (i := i) hN hv hd hcd).run pins s σ H (fun v H1 => v = .ref C ∧ H1 = H) I ⟨.ref C, hs, rfl, rfl⟩) fun u s1 ⟨v, H1, I1, r1, ev, eH⟩ => ?_)
  subst ev
  rw [eH] at I1
  cases r1
  exact PySem.W.callWith_K (h₀ := X.base) I.ok.mod.kin M.kp (thn (ha.run pos pins s1 σ H _ I1 h) fun us s2 ⟨vs, H2, I2, r, q⟩ => ⟨I2.kIn, run_makeGX M F len gd hr hb hx I2 r q⟩) he hpl
/-- C.m(..) -/
theorem run_cmGX {σ : L2.St} {H : Hp} {s : Shared} {pins : List (Addr × Obj)} {q : Addr} {Q : VK} {us : List Value} {vs : List V} (F : FnG X.prog X.w X.K X.mg X.base (L2.CX X.prog X.w) k f fd ps sp) (len : ∀ vs H Q E, sp vs H Q E → vs.length = ps.length) (gd : X.A.guards = some []) (hr : Room k X.A) (hb : Binds X.K fd ps []) (hx : ∀ σ, PassesAt (L2.CX X.prog X.w) X σ E)
    (I : Inv X ((q, PySem.W.methodObj (.ref f) (.ref C)) :: pins) σ H s) (r : Vals vs us) (h : sp (.ref C :: vs) H Q E) : wpAny (model X.prog X.w) X.A (call (.ref q) us) (EP X pins σ Q) X.xe s := by
  have rr : Vals (V.ref C :: vs) (Value.ref C :: us ++ []) := by rw [List.append_nil]; exact .cons rfl r
  have n : (Value.ref C :: us ++ []).length = ps.length := by rw [← rr.length]; exact len _ _ _ _ h
  have z : wpAny (model X.prog X.w) X.A (call (.ref q) us) (EP X ((q, PySem.W.methodObj (.ref f) (.ref C)) :: pins) σ Q) X.xe s := by
    refine wpAny_call (PySem.W.method_call (ClX.pin_at I) (codeAny_mono (F X.A X.stack s H ⟨Value.ref C :: us, []⟩ (Value.ref C :: us ++ []) (V.ref C :: vs) Q E gd hr I.env0 (hb s (Value.ref C :: us) I.kIn n) rr h) fun r s' hq => ?_))
    cases r with
    | error e => exact hx σ _ H s e s' I hq
    | ok fl =>
      cases fl with
      | ret u => exact I.after hq
      | next => exact False.elim hq
      | brk => exact False.elim hq
      | cont => exact False.elim hq
  exact thn z fun _ _ y => ClX.unpinE y
theorem pe_cmGX (he : PE X o ta) (r : ClX.CRead X.K C mc) (c : ClX.CMet X.K C mc m p f) (F : FnG X.prog X.w X.K X.mg X.base (L2.CX X.prog X.w) k f fd ps sp) (len : ∀ vs H Q E, sp vs H Q E → vs.length = ps.length) (gd : X.A.guards = some []) (hr : Room k X.A) (hb : Binds X.K fd ps []) (hx : ∀ σ, PassesAt (L2.CX X.prog X.w) X σ E) (ha : PA X (e :: es) t)
    (hst : starEach (e :: es) X.env = (false, eval e X.env) :: starEach es X.env := by rfl) (hpl : (backTo pos (starEach es X.env)).any (·.1) = false := by rfl)
    (ht : eval (.Call (.Attribute o m apos) (e :: es) [] pos) X.env = (do
      let ov ← eval o X.env
      standAt apos.atName
      let (f, first) ← holding [ov] (getMethod ov m pl)
      callWith pos f first (backTo pos (starEach (e :: es) X.env)) (backToKw pos (keywordEach [] X.env))) := by rfl) :
    PE X (.Call (.Attribute o m apos) (e :: es) [] pos) (ClX.tCMeth C sp E ta t) := by
  refine ⟨fun pins s σ H Q I h => ?_⟩
  refine PySem.W.methodCall_KW (pl := pl) (thn (he.run pins s σ H _ I h) fun u s1 ⟨x, H1, I1, rx, ex, q⟩ => ?_) ht
  subst ex
  obtain rfl : u = Value.ref C := rx
  refine ClX.getmethcm_ok I1 r c fun s2 I2 => ?_
  refine ClX.callwith_cm I2 (ClX.base_none I1 (Nat.le_refl _)) c.fi (thn (ha.run pos _ s2 σ H1 _ I2 q) fun us s3 ⟨vs, H2, I3, rv, q2⟩ => ⟨⟨ClX.pin_at I3, I3.kIn⟩, ?_⟩) hst hpl
  exact run_cmGX F len gd hr hb hx I3 rv q2
/-- C.m(k = v) -/
def tCMethK (C : Addr) (sp : Sp) (gV : List V → List V → List V) (E : XK) (ta : TE) (tk : TA) : TE := fun σ H Q => ta σ H fun x H1 => x = .ref C ∧ tk σ H1 fun zs H2 => sp (gV [.ref C] zs) H2 Q E
theorem run_cmKGX {σ : L2.St} {H : Hp} {s : Shared} {pins : List (Addr × Obj)} {q : Addr} {Q : VK} {ws : List Value} {zs : List V} (F : FnG X.prog X.w X.K X.mg X.base (L2.CX X.prog X.w) k f fd ps sp) (len : ∀ vs H Q E, sp vs H Q E → vs.length = ps.length) (gd : X.A.guards = some []) (hr : Room k X.A) (hb : KBinds X.K fd ps ks gg gV) (hx : ∀ σ, PassesAt (L2.CX X.prog X.w) X σ E)
    (I : Inv X ((q, PySem.W.methodObj (.ref f) (.ref C)) :: pins) σ H s) (r : Vals zs ws) (h : sp (gV [.ref C] zs) H Q E) : wpAny (model X.prog X.w) X.A (call (.ref q) [] (ks.zip ws)) (EP X pins σ Q) X.xe s := by
  have r2 := hb.rel (vs := [.ref C]) (us := [.ref C]) (.cons rfl .nil) r
  have hl : (gg [.ref C] ws).length = ps.length := by rw [← r2.length]; exact len _ _ _ _ h
  have z : wpAny (model X.prog X.w) X.A (call (.ref q) [] (ks.zip ws)) (EP X ((q, PySem.W.methodObj (.ref f) (.ref C)) :: pins) σ Q) X.xe s := by
    refine wpAny_call (PySem.W.method_call (ClX.pin_at I) (codeAny_mono (F X.A X.stack s H ⟨[.ref C], ks.zip ws⟩ (gg [.ref C] ws) (gV [.ref C] zs) Q E gd hr I.env0 (hb.to s [.ref C] ws I.kIn hl) r2 h) fun r s' hq => ?_))
    cases r with
    | error e => exact hx σ _ H s e s' I hq
    | ok fl =>
      cases fl with
      | ret u => exact I.after hq
      | next => exact False.elim hq
      | brk => exact False.elim hq
      | cont => exact False.elim hq
  exact thn z fun _ _ y => ClX.unpinE y
theorem pe_cmKGX (he : PE X o ta) (r : ClX.CRead X.K C mc) (c : ClX.CMet X.K C mc m p f) (F : FnG X.prog X.w X.K X.mg X.base (L2.CX X.prog X.w) k f fd ps sp) (len : ∀ vs H Q E, sp vs H Q E → vs.length = ps.length) (gd : X.A.guards = some []) (hr : Room k X.A) (hb : KBinds X.K fd ps ks gg gV) (hx : ∀ σ, PassesAt (L2.CX X.prog X.w) X σ E) (hkw : PK X kws tk)
    (hall : (backToKw pos (keywordEach kws X.env)).all (·.1.isSome) = true := by rfl) (hks : (backToKw pos (keywordEach kws X.env)).filterMap (·.1) = ks := by rfl)
    (hpl : ((backTo pos (starEach [] X.env)).any (·.1) || (backToKw pos (keywordEach kws X.env)).any (·.1.isNone)) = false := by rfl)
    (ht : eval (.Call (.Attribute o m apos) [] kws pos) X.env = (do
      let ov ← eval o X.env
      standAt apos.atName
      let (f, first) ← holding [ov] (getMethod ov m pl)
      callWith pos f first (backTo pos (starEach [] X.env)) (backToKw pos (keywordEach kws X.env))) := by rfl) :
    PE X (.Call (.Attribute o m apos) [] kws pos) (tCMethK C sp gV E ta tk) := by
  refine ⟨fun pins s σ H Q I h => ?_⟩
  refine PySem.W.methodCall_KW (pl := pl) (thn (he.run pins s σ H _ I h) fun u s1 ⟨x, H1, I1, rx, ex, q⟩ => ?_) ht
  subst ex
  obtain rfl : u = Value.ref C := rx
  refine ClX.getmethcm_ok I1 r c fun s2 I2 => ?_
  refine PySem.W.callWith_of (P := PySem.W.MethP X.K s1.heap.objs.size f (.ref C)) hpl (PySem.W.keeps_M c.fi) (PyProof.Rows.evalArgs_kw2_nil hall (thn (hkw.run pos _ s2 σ H1 _ I2 q) fun ws s3 ⟨zs, H2, I3, rz, q2⟩ => ⟨⟨ClX.pin_at I3, I3.kIn⟩, ?_⟩))
  show wpAny _ X.A (call (.ref _) [] _) _ _ _
  rw [hks]
  exact run_cmKGX F len gd hr hb hx I3 rz q2
end
end XG

set_option Elab.async false
set_option linter.all false
set_option maxRecDepth 100000
set_option maxHeartbeats 4000000
/-! Filling.read. -/
namespace XG
open PySem PySem.Spec PyProof.Rows L2
/-- what raises nothing, where an error would go somewhere -/
theorem FnG.lift {P : Program} {w : World} {K : PySem.W.Frag} {mg : Str → Option Value} {base : Heap} {f : Addr} {fd : FuncData} {ps : List Str} {k : Nat} {sp : Sp} (F : FnG P w K mg base CX0 k f fd ps sp) : FnG P w K mg base (L2.CX P w) k f fd ps sp := fun A outer s H args us vs Q E gd room e0 bd r q => by
  refine codeAny_mono (F A outer s H args us vs Q E gd room e0 bd r q) fun r s' z => ?_
  cases r with
  | ok fl => cases fl <;> exact z
  | error e => exact (show False from z).elim
end XG
namespace Fi
open PySem PySem.NumText PySem.Spec PyProof.Rows L2 EvP Cm Fk DtE Tb XG Wd
open Dg hiding numT
abbrev sFRead : Stmt := fmeth 21
theorem scFRead : FnScope ["cls", "text", "words", "amounts"] ["cls", "text"] (defScope sFRead) := ⟨rfl, rfl, rfl, by decide +kernel, rfl, by decide +kernel, by decide +kernel⟩
/-- a text of few words -/
structure TxF (z : Str) : Prop where
  len : z.length ≤ 9000
  few : (ws z).length ≤ 200
def spFRead (K : PySem.W.Frag) (CS C CB : Addr) : Sp := fun vs H Q E => ∃ v : V, vs = [.ref C, v] ∧
  ((∃ z, v = .str z ∧ TxF z ∧ (wrongF (ws z) = none → ∀ b H', Ex H H' → Amts (readF (ws z)) → FilAt CS C H' b (toldT (readF (ws z))) (told (sumsR 0 (readF (ws z)))) (told (sumsR 1 (readF (ws z)))) → Q (.ref b) H') ∧ (∀ k, wrongF (ws z) = some k → ∀ d H', Ex H H' → H' d = some (.xd (badF k)) → E (.ref CB) (some d) H')) ∨
   (∃ t, TyX K H v t ∧ (∀ H', Ex H H' → TyX K H' v t) ∧ PySem.W.kitOne K t (.type "str") = some false ∧ ∀ d H', Ex H H' → H' d = some (.xd (badF 0)) → E (.ref CB) (some d) H'))
theorem spFRead_len {K : PySem.W.Frag} {CS C CB : Addr} : ∀ vs H Q E, spFRead K CS C CB vs H Q E → vs.length = (["cls", "text"] : List Str).length := fun vs H Q E h => by
  obtain ⟨v, rfl, _⟩ := h
  rfl
section
variable {P : Program} {w : World} {K : PySem.W.Frag} {mg : Str → Option Value} {base : Heap} {CS C CW CB f f1 f2 f3 f4 : Addr} {fd fd1 fd2 fd3 fd4 : FuncData}
theorem ok_fread (F : Fun K "read" "Filling.read" sFRead f fd) (S : WdC K CW) (MW : Mk K CW f1) (G1 : FnOk P w K mg base (L2.CX P w) 3 f1 fd1 ["self", "text"] (spWInit K CW CB)) (b1 : Binds K fd1 ["self", "text"] []) (gW : mg "Words" = some (.ref CW))
    (G2 : FnOk P w K mg base (L2.CX P w) 6 f2 fd2 ["words"] (spTF CW CB)) (b2 : Binds K fd2 ["words"] []) (g2 : mg "take_filled" = some (.ref f2)) (k2 : PySem.W.keepIn K (.ref f2) = true)
    (m3 : Meth K CW "take_end" f3) (G3 : FnOk P w K mg base (L2.CX P w) 3 f3 fd3 ["self"] (spTEnd CW CB)) (b3 : Binds K fd3 ["self"] [])
    (M : Mk K C f4) (G4 : FnG P w K mg base CX0 8 f4 fd4 ["self", "amounts"] (spFI CS C)) (b4 : Binds K fd4 ["self", "amounts"] []) : FnG P w K mg base (L2.CX P w) 10 f fd ["cls", "text"] (spFRead K CS C CB) := by
  have nd := scFRead.nd
  refine XG.Fun.okGX F scFRead spFRead_len fun cdv A outer s H vs Q E gd hr h => ?_
  obtain ⟨v, rfl, h⟩ := h
  refine ⟨_, pss_cons (ps_set (i := 2) nd rfl (Or.inl rfl) (pe_make (E := E) MW G1 (hr.mono (by decide)) (by rfl) gW b1 .nil (passes_call (W := fun cls d _ H => E cls d H) (takes_of rfl rfl rfl rfl) (fun _ _ _ _ z => z)) (pa_cons (pv 1) pa_nil)))
    (pss_cons (ps_set (i := 3) nd rfl (Or.inl rfl) (pe_call (E := E) G2 (hr.mono (by decide)) (by rfl) g2 k2 b2 .nil (passes_call (W := fun cls d _ H => E cls d H) (takes_of rfl rfl rfl rfl) (fun _ _ _ _ z => z)) (pa_cons (pv 2) pa_nil)))
    (pss_cons (ps_expr (pe_meth0 (E := E) (pv 2) S.cl m3 G3 (hr.mono (by decide)) b3 .nil (passes_call (W := fun cls d _ H => E cls d H) (takes_of rfl rfl rfl rfl) (fun _ _ _ _ z => z))))
    (pss_one (ps_ret (XG.pe_makeVX (i := 0) (E := E) M (FnG.lift G4) spFI_len gd hr b4 (fun σ => passAt (W := fun cls d _ H => E cls d H) (takes_of rfl rfl rfl rfl) σ) rfl (Or.inl rfl) (pa_cons (pv 3) pa_nil)))))), ?_⟩
  refine ⟨_, rfl, fun x dx hx hdx ne => ?_⟩
  have e1 : Ex H (upd (upd H dx (.own x)) x (.ins CW dx [])) := fun b o hb => by
    rw [upd_ne (ne_of_none hb hx), upd_ne (ne_of_none hb hdx)]
    exact hb
  have noX : ∀ {H2}, ButX x (upd (upd H dx (.own x)) x (.ins CW dx [])) H2 → Ex H H2 := fun bt b o hb => bt b o (e1 b o hb) (ne_of_none hb hx)
  rcases h with ⟨z, rfl, tz, q1, q2⟩ | ⟨t, _, ty, kt, q⟩
  · refine ⟨x, dx, .str z, rfl, upd_same, .inl ⟨z, rfl, tz.len, fun l H1 bt1 h1 => ⟨rfl, ?_⟩⟩⟩
    have eA := noX bt1
    have lw : 0 < (ws z).length := List.length_pos_iff.mpr (ws_ne z)
    have hh : (ws z).head? = (ws z)[0]? := List.head?_eq_getElem?
    -- what is behind the words
    have fin : ∀ d H2 i, ButX x H1 H2 → H2 d = some (.dT (tents (readF (ws z)))) → Amts (readF (ws z)) → WdAt CW H2 x dx l (ws z) i → ((i = (ws z).length ∧ wrongF (ws z) = none) ∨ (i ≠ (ws z).length ∧ wrongF (ws z) = some i)) →
        tSeq (tDrop (tMeth CW "take_end" (spTEnd CW CB) [] E (tVar 2) tNil)) (tRet (XG.tMakeVX 0 C (spFI CS C) E (tCons (tVar 3) tNil))) { nx := fun _ H' => Q .non H', rt := Q } [some (.ref C), some (.str z), some (.ref x), some (.ref d)] H2 := by
      intro d H2 i bt2 hd am h2 cs
      have e2 : Ex H H2 := fun b o hb => bt2 b o (eA b o hb) (ne_of_none hb hx)
      refine ⟨_, rfl, x, dx, _, rfl, h2.at_, rfl, x, dx, l, ws z, i, rfl, h2, fun hi => ?_, fun hi d' H' e' hd' => ?_⟩
      · rcases cs with ⟨_, hw⟩ | ⟨no, _⟩
        · refine ⟨rfl, _, rfl, fun y dy hy hdy ney => ?_⟩
          have e3 : Ex H2 (upd (upd H2 dy (.own y)) y (.ins C dy [])) := fun b o hb => by
            rw [upd_ne (ne_of_none hb hy), upd_ne (ne_of_none hb hdy)]
            exact hb
          refine ⟨y, d, dy, readF (ws z), rfl, upd_same, e3 _ _ hd, am, fun H4 bt fa => ⟨rfl, q1 hw y H4 (fun b o hb => bt b o (e3 b o (e2 b o hb)) (ne_of_none (e2 b o hb) hy)) am fa⟩⟩
        · exact absurd hi no
      · rcases cs with ⟨yes, _⟩ | ⟨_, hw⟩
        · exact absurd yes hi
        · exact q2 i hw d' H' (e2.trans e') hd'
    refine ⟨_, rfl, x, dx, l, ws z, rfl, h1, fun hd d H2 bt2 nd2 hd2 h2 => ?_, fun hd hw p q d H2 bt2 nd2 hd2 ris h2 => ?_, fun hd k hw d H2 bt2 hd2 => ?_⟩
    · have rv : readF (ws z) = [] := by
        unfold readF
        rw [hh, if_pos hd]
      have wv : wrongF (ws z) = if 1 < (ws z).length then some 1 else none := by
        unfold wrongF
        rw [hh, if_pos hd]
      refine fin d H2 1 bt2 (by rw [rv]; exact hd2) (by rw [rv]; exact ⟨.nil, (fun t ht => by cases ht), (fun t ht => by cases ht), Nat.zero_le _⟩) h2 ?_
      by_cases c1 : 1 < (ws z).length
      · rw [if_pos c1] at wv
        exact .inr ⟨by omega, wv⟩
      · rw [if_neg c1] at wv
        exact .inl ⟨by omega, wv⟩
    · have rv : readF (ws z) = rowsF (ws z) := by
        unfold readF
        rw [hh, if_neg hd]
      have wv : wrongF (ws z) = none := by
        unfold wrongF
        rw [hh, if_neg hd, hw]
      refine fin d H2 (ws z).length bt2 (by rw [rv]; exact hd2) ?_ h2 (.inl ⟨rfl, wv⟩)
      rw [rv]
      have := ris.few
      have := tz.few
      exact ⟨ris.nod, ris.key, fun t ht => Int.le_of_lt (ris.pos t ht), by omega⟩
    · refine q2 k ?_ d H2 (fun b o hb => bt2 b o (eA b o hb) (ne_of_none hb hx)) hd2
      unfold wrongF
      rw [hh, if_neg hd, hw]
  · refine ⟨x, dx, v, rfl, upd_same, .inr ⟨t, ty _ e1, kt, fun d H' bt hd => q d H' (noX bt) hd⟩⟩
end
end Fi

set_option Elab.async false
set_option linter.all false
set_option maxRecDepth 100000
set_option maxHeartbeats 4000000
/-! Comprehensions over long texts. -/
namespace Cm
open PySem PySem.Spec PyProof.Rows L2 EvP
section
variable {K : PySem.W.Frag} {σ : L2.St} {H : Hp} {tl te : TE} {tt : TT} {xs : List V} {vs : List Nat} {i : Nat} {wi : TI}
/-- [e for x in xs if t] -/
theorem compB (keep : V → Bool) (φ : V → PR) (hw : Walks wi σ H xs) (hz : xs.length ≤ 20000) (wp : ∀ x, wipe ((wipe σ vs).set i (some x)) vs = wipe σ vs)
    (ht : ∀ x ∈ xs, ∀ H1, Ex H H1 → ∀ Q : Bool → Hp → Prop, Q (keep x) H1 → tt ((wipe σ vs).set i (some x)) H1 Q) (he : ∀ x ∈ xs, keep x = true → Gives te ((wipe σ vs).set i (some x)) H (φ x)) (st : ∀ x ∈ xs, Stays (φ x)) :
    Gives (tLc wi (gName i) tt te vs) σ H (lst H ((xs.filter keep).map φ)) := fun H1 e1 Q q => by
  refine hw H1 e1 _ fun J H2 e2 ⟨G, w, g⟩ D hD => ?_
  have mem : ∀ (j : Nat) (P : PR), P ∈ ((xs.take j).filter keep).map φ → Stays P := fun j P hP => by
    obtain ⟨x, hx, rfl⟩ := List.mem_map.mp hP
    exact st x (List.mem_of_mem_take (List.mem_filter.mp hx).1)
  have len : ∀ j, (((xs.take j).filter keep).map φ).length ≤ 20000 := fun j => by
    rw [List.length_map]
    exact Nat.le_trans (List.length_filter_le _ _) (by rw [List.length_take]; omega)
  refine lc_it w (fun j H' => ∃ acc, H' D = some (.lst acc) ∧ Ex H2 H' ∧ All2 H' (((xs.take j).filter keep).map φ) acc) ⟨[], upd_same, Ex.new hD, .nil⟩ (fun j H' _ ⟨_, _, e3, _⟩ => g _ e3) (fun j x H' H'' hj ⟨acc, a1, a2, a3⟩ y => ?_) (fun H' ⟨acc, a1, a2, a3⟩ => ?_)
  · obtain ⟨rfl, hx⟩ := y
    have mx := List.mem_of_getElem? hx
    have eH := (e1.trans e2).trans a2
    have tk : xs.take (j + 1) = xs.take j ++ [x] := by
      rw [List.take_add_one, hx]
      rfl
    refine ⟨wp x, ht x mx _ eH _ ?_⟩
    cases kx : keep x with
    | false =>
      refine ⟨acc, a1, a2, ?_⟩
      rw [tk, List.filter_append, List.filter_cons, kx]
      simpa using a3
    | true =>
      refine he x mx kx _ eH _ fun v H4 e4 hv => ⟨acc, e4 _ _ a1, ?_, acc ++ [v], upd_same, fun b o hb => ?_, ?_⟩
      · have := a3.length
        have := len j
        rw [sizeLine_eq]
        omega
      · rw [upd_ne (ne_of_none hb hD)]
        exact e4 _ _ (a2 _ _ hb)
      · rw [tk, List.filter_append, List.filter_cons, kx, List.map_append]
        refine all2_stays (e4 _ _ a1) (fun P hP => ?_) (all2_snoc (a3.ex e4) hv)
        rcases List.mem_append.mp hP with hP | hP
        · exact mem j P hP
        · rw [List.mem_singleton.mp hP]
          exact st x mx
  · rw [List.take_length] at a3
    exact q _ _ (e2.trans a2) ⟨D, acc, rfl, a1, (e1.trans e2).back hD, a3⟩
/-- .. of values that are told -/
theorem comp_isB (keep : V → Bool) (f : V → V) (hw : Walks wi σ H xs) (hz : xs.length ≤ 20000) (wp : ∀ x, wipe ((wipe σ vs).set i (some x)) vs = wipe σ vs)
    (ht : ∀ x ∈ xs, ∀ H1, Ex H H1 → ∀ Q : Bool → Hp → Prop, Q (keep x) H1 → tt ((wipe σ vs).set i (some x)) H1 Q) (he : ∀ x ∈ xs, keep x = true → Gives te ((wipe σ vs).set i (some x)) H (is (f x))) :
    Gives (tLc wi (gName i) tt te vs) σ H (lstV ((xs.filter keep).map f)) := fun H1 e1 Q q =>
  compB keep (fun x => is (f x)) hw hz wp ht he (fun _ _ => stays_is _) H1 e1 Q fun v H2 e2 ⟨a, ws, ev, ha, _, hs⟩ => q v H2 e2 ⟨a, ev, by
    have h2 : All2 H2 ((List.map f (xs.filter keep)).map is) ws := by
      rw [List.map_map]
      exact hs
    rw [← all2_is h2]
    exact ha⟩
end
end Cm

set_option Elab.async false
set_option linter.all false
set_option maxRecDepth 100000
set_option maxHeartbeats 4000000
/-! Tests and signs that only add objects; a walk over a side. -/
namespace Cm
open PySem PySem.Spec PyProof.Rows L2 EvP
/-- a test that says b, and only adds -/
def Tst (tt : TT) (σ : L2.St) (H : Hp) (b : Bool) : Prop := ∀ H1, Ex H H1 → ∀ Q : Bool → Hp → Prop, (∀ H2, Ex H1 H2 → Q b H2) → tt σ H1 Q
section
variable {K : PySem.W.Frag} {σ : L2.St} {H : Hp} {ta tb te tc : TE} {P R S : PR} {tt tu : TT} {b c : Bool} {t u : TS} {D : Ends}
theorem t_or (h : Tst tt σ H false) (k : Tst tu σ H b) : Tst (tOr tt tu) σ H b := fun H1 e Q q =>
  h H1 e _ fun H2 e2 => (by
    show tu σ H2 Q
    exact k H2 (e.trans e2) Q fun H3 e3 => q H3 (e2.trans e3))
theorem t_and (h : Tst tt σ H true) (k : Tst tu σ H b) : Tst (tAnd tt tu) σ H b := fun H1 e Q q =>
  h H1 e _ fun H2 e2 => (by
    show tu σ H2 Q
    exact k H2 (e.trans e2) Q fun H3 e3 => q H3 (e2.trans e3))
theorem t_andF (h : Tst tt σ H false) : Tst (tAnd tt tu) σ H false := fun H1 e Q q => h H1 e _ fun H2 e2 => q H2 e2
theorem t_not (h : Tst tt σ H b) : Tst (tNot tt) σ H (!b) := fun H1 e Q q => h H1 e _ q
theorem t_val (h : EvP.Gives te σ H (is (.bl b))) : Tst (tB te) σ H b := fun H1 e Q q => h H1 e _ fun v H2 e2 ev => ⟨b, ev, q _ e2⟩
theorem t_test (h : EvP.Gives te σ H (is (.bl b))) : Tst (tTest te) σ H b := fun H1 e Q q => h H1 e _ fun v H2 e2 ev => ⟨b, ev, q _ e2⟩
/-- a sign of two values -/
theorem g_op {r : R2} (h : EvP.Gives ta σ H P) (k : EvP.Gives tb σ H R) (step : ∀ x y H1, Ex H H1 → P.R x H1 → R.R y H1 → ∀ Q : VK, (∀ v H2, Ex H1 H2 → S.R v H2 → Q v H2) → r x y H1 Q) : EvP.Gives (tOp r ta tb) σ H S := fun H1 e Q q =>
  h H1 e _ fun x H2 e2 hx => k H2 (e.trans e2) _ fun y H3 e3 hy => step x y H3 ((e.trans e2).trans e3) (P.mono _ _ _ e3 hx) hy Q fun v H4 e4 hv => q v H4 ((e2.trans e3).trans e4) hv
/-- a call of a built-in, one argument -/
theorem g_call {r : List V → Hp → VK → Prop} (h : EvP.Gives te σ H P) (step : ∀ x H1, Ex H H1 → P.R x H1 → ∀ Q : VK, (∀ v H2, Ex H1 H2 → S.R v H2 → Q v H2) → r [x] H1 Q) : EvP.Gives (tCB r (tCons te tNil)) σ H S := fun H1 e Q q =>
  h H1 e _ fun x H2 e2 hx => step x H2 (e.trans e2) hx Q fun v H3 e3 hv => q v H3 (e2.trans e3) hv
theorem g_and (h : EvP.Gives ta σ H (is (.bl true))) (k : EvP.Gives tb σ H P) : EvP.Gives (tAndV ta tb) σ H P := fun H1 e Q q =>
  h H1 e _ fun v H2 e2 ev => ⟨true, ev, (by
    show tb σ H2 Q
    exact k H2 (e.trans e2) Q fun u H3 e3 hu => q u H3 (e2.trans e3) hu)⟩
theorem st_ifF (h : Tst tt σ H false) (k : ∀ H1, Ex H H1 → u D σ H1) : tSeq (tIfS tt t tNext) u D σ H := h H (Ex.refl H) _ k
theorem st_ifT (h : Tst tt σ H true) (k : ∀ H1, Ex H H1 → t { D with nx := u D } σ H1) : tSeq (tIfS tt t tNext) u D σ H := h H (Ex.refl H) _ k
/-- the last statement of a block -/
theorem st_ifF1 (h : Tst tt σ H false) (k : ∀ H1, Ex H H1 → D.nx σ H1) : tIfS tt t tNext D σ H := h H (Ex.refl H) _ k
end
end Cm

set_option Elab.async false
set_option linter.all false
set_option maxRecDepth 100000
set_option maxHeartbeats 4000000
/-! A walk over a text. -/
namespace Cm
open PySem PySem.Spec PyProof.Rows L2 EvP
section
variable {K : PySem.W.Frag} {σ : L2.St} {H : Hp} {te : TE}
theorem walks_str {x : Str} {ss : List Str} (h : EvP.Gives te σ H (is (.str x))) (e : x.cps.toList.map (fun c => (⟨#[c]⟩ : Str)) = ss) : Walks (iStr te) σ H (ss.map V.str) := fun H1 e1 R r =>
  h H1 e1 _ fun v H2 e2 ev => ⟨x, ev, by
    subst e
    refine r _ _ e2 ⟨fun _ => True, ⟨fun i H hi _ => by
      show i < x.cps.size
      simpa using hi, fun H _ => by simp [Its], fun i H v H' hi _ y => ?_⟩, fun _ _ => trivial⟩
    obtain ⟨rfl, c, hc, rfl⟩ := y
    refine ⟨rfl, ?_⟩
    simp [hc]⟩
end
end Cm

set_option Elab.async false
set_option linter.all false
set_option maxRecDepth 100000
set_option maxHeartbeats 4000000
set_option autoImplicit false
/-! The law's own looks at words. -/
namespace Wd
open PySem PySem.NumText PySem.Spec PyProof.Rows L2 EvP Cm Fk
open Dg hiding numT
theorem dp_strs {K : PySem.W.Frag} {H : Hp} : ∀ ss : List Str, DpAll K H (ss.map V.str) (ss.map PyData.str)
  | [] => .nil
  | s :: r => .cons (.str s) (dp_strs r)
theorem lay_strs : ∀ {ss : List Str}, (∀ s ∈ ss, PyData.strOk s = true) → PyData.canLayAll0 (ss.map PyData.str) = true
  | [], _ => rfl
  | s :: r, h => by
    show (PyData.strOk s && PyData.canLayAll0 (r.map PyData.str)) = true
    rw [h s (.head _), lay_strs fun y hy => h y (.tail _ hy)]
    rfl
theorem depth_strs : ∀ ss : List Str, PyData.depthAll (ss.map PyData.str) = 0
  | [] => rfl
  | s :: r => by
    show max 0 (PyData.depthAll (r.map PyData.str)) = 0
    rw [depth_strs r]
    rfl
theorem shaped_strsL {ss : List Str} (h : ∀ s ∈ ss, PyData.strOk s = true) : SeqAt.shaped (.list (ss.map PyData.str)) = true := by
  show (PyData.canLayAll0 (ss.map PyData.str) && decide (PyData.depthAll (ss.map PyData.str) + 1 ≤ 64)) = true
  rw [lay_strs h, depth_strs]
  rfl
theorem eqv_strs_nil (ss : List Str) : PyData.eqv (.list (ss.map PyData.str)) (.list []) = ss.isEmpty := by
  cases ss <;> rfl
theorem lst_is {H0 : Hp} {vs : List V} {v : V} {H : Hp} (h : (lst H0 (vs.map is)).R v H) : (lstV vs).R v H := by
  obtain ⟨a, ws, e, ha, _, hs⟩ := h
  exact ⟨a, e, by rw [← all2_is hs]; exact ha⟩
section
variable {K : PySem.W.Frag} {σ : L2.St} {H : Hp} {ta tb te : TE}
theorem g_eqNil {ss : List Str} (h : EvP.Gives ta σ H (lstV (ss.map V.str))) (o : ∀ s ∈ ss, PyData.strOk s = true) : EvP.Gives (tOp (rEqD K) ta (tLst tNil)) σ H (is (.bl ss.isEmpty)) :=
  g_op (R := lstV []) h (Fk.Gives.imp (EvP.list (H0 := H) (Ps := ([] : List V).map is) (Ex.refl _) EvP.nil (by show 0 ≤ 1000; decide)) fun v H h => lst_is h) fun x y H1 e ⟨a, ex, ha⟩ ⟨b, ey, hb⟩ Q q => by
    subst ex
    subst ey
    refine ⟨.list (ss.map PyData.str), .list [], .lst (SqL.of ha) (dp_strs _), .lst (SqL.of hb) .nil, shaped_strsL o, rfl, ?_⟩
    rw [eqv_strs_nil]
    exact q _ _ (Ex.refl _) rfl
end
/-- the signs of a text that are not in z -/
def odds (z x : Str) : List Str := (tl x).map (fun c => (⟨#[c]⟩ : Str)) |>.filter fun s => !decide (s.cps.toList.headD 0 ∈ tl z)
def keepO (z : Str) : V → Bool := fun v => match v with
  | .str s => !decide (s.cps.toList.headD 0 ∈ tl z)
  | _ => false
theorem odds_keep (z x : Str) : ((((tl x).map (fun c => (⟨#[c]⟩ : Str))).map V.str).filter (keepO z)).map id = (odds z x).map V.str := by
  rw [List.map_id, List.filter_map]
  rfl
theorem odds_empty (z x : Str) : (odds z x).isEmpty = (tl x).all (fun c => decide (c ∈ tl z)) := by
  unfold odds
  rw [Bool.eq_iff_iff, List.isEmpty_iff, List.filter_eq_nil_iff, List.all_eq_true]
  refine ⟨fun h c hc => ?_, fun h s hs => ?_⟩
  · have := h ⟨#[c]⟩ (List.mem_map_of_mem hc)
    simpa using this
  · obtain ⟨c, hc, rfl⟩ := List.mem_map.mp hs
    have := h c hc
    simpa using this
theorem odds_ok {z x : Str} (a : ∀ c ∈ tl x, c < 128) : ∀ s ∈ odds z x, PyData.strOk s = true := fun s hs => by
  unfold odds at hs
  obtain ⟨c, hc, rfl⟩ := List.mem_map.mp (List.mem_filter.mp hs).1
  unfold PyData.strOk
  have := a c hc
  simp
  omega
/-- the signs of a word that are not in z, read -/
theorem g_odds {σ : L2.St} {H : Hp} {z x : Str} (h0 : σ[0]? = some (some (.str x))) (l : σ.length = 2) (hl : x.length ≤ 9000) (hv : ∀ y, wipe ((wipe σ [1]).set 1 (some y)) [1] = wipe σ [1]) (h1 : ∀ y, ((wipe σ [1]).set 1 (some y))[1]? = some (some y)) :
    EvP.Gives (tLc (iStr (tVar 0)) (gName 1) (tTest (tOp rNotInS (tVar 1) (tC (.str z)))) (tVar 1) [1]) σ H (lstV ((odds z x).map V.str)) := by
  rw [← odds_keep]
  refine comp_isB (keepO z) id (walks_str (EvP.var h0) rfl) (by rw [List.length_map, List.length_map, len_cps]; omega) hv (fun y hy H3 e3 Q h => ?_) (fun y hy _ => EvP.var (h1 y))
  obtain ⟨s, hs, rfl⟩ := List.mem_map.mp hy
  obtain ⟨c, hc, rfl⟩ := List.mem_map.mp hs
  exact ⟨_, h1 _, c, z, rfl, rfl, _, rfl, h⟩
abbrev az : Str := "abcdefghijklmnopqrstuvwxyz"
abbrev d9 : Str := "0123456789"
theorem name_az (x : Str) (h1 : 1 ≤ x.length) (h8 : x.length ≤ 8) (hin : inV (.str x) [.str "none", .str "self"] = false) : (tl x).all (fun c => decide (c ∈ tl az)) = nameB x := by
  have tA : ∀ c, c < 128 → c ∈ tl az → Unicode.isAlpha c = true ∧ Unicode.isLower c = true ∧ (Unicode.isUpper c || Unicode.isTitle c) = false := by decide +kernel
  have tB : ∀ c, c < 128 → Unicode.isAlpha c = true → (Unicode.isUpper c || Unicode.isTitle c) = false → c ∈ tl az := by decide +kernel
  have lt : ∀ c, c ∈ tl az → c < 128 := by decide +kernel
  unfold nameB
  rw [hin, decide_eq_true (by omega), Bool.eq_iff_iff]
  simp only [Bool.true_and, Bool.not_false, Bool.and_eq_true, List.all_eq_true, decide_eq_true_eq]
  unfold Txt.isascii Txt.isalpha Txt.islower
  simp only [Bool.and_eq_true, ← Array.all_toList, ← Array.any_toList, List.all_eq_true, decide_eq_true_eq, Bool.not_eq_true', List.any_eq_false, List.any_eq_true]
  refine ⟨fun h => ⟨⟨fun c hc => lt c (h c hc), by omega, fun c hc => (tA c (lt c (h c hc)) (h c hc)).1⟩, ?_, fun c hc => ?_⟩, fun ⟨⟨a1, _, a2⟩, _, a3⟩ c hc => tB c (a1 c hc) (a2 c hc) ?_⟩
  · have : 0 < (tl x).length := by rw [len_cps]; omega
    exact ⟨(tl x)[0], List.getElem_mem this, (tA _ (lt _ (h _ (List.getElem_mem this))) (h _ (List.getElem_mem this))).2.1⟩
  · rw [(tA c (lt c (h c hc)) (h c hc)).2.2]
    exact Bool.false_ne_true
  · have := a3 c hc
    simpa using this
theorem amt_d9 (x : Str) : (tl x).all (fun c => decide (c ∈ tl d9)) = (tl x).all (fun c => decide (48 ≤ c ∧ c ≤ 57)) := by
  have e : ∀ c, decide (c ∈ tl d9) = decide (48 ≤ c ∧ c ≤ 57) := fun c => by
    rw [decide_eq_decide]
    show c ∈ [48, 49, 50, 51, 52, 53, 54, 55, 56, 57] ↔ _
    simp only [List.mem_cons, List.not_mem_nil, or_false]
    omega
  exact congrArg (fun p => (tl x).all p) (funext e)
abbrev sLName : Stmt := top 50
abbrev sLAmt : Stmt := top 51
def spLName : Sp := fun vs H Q _ => ∃ x : Str, vs = [.str x] ∧ x.length ≤ 9000 ∧ (∀ c ∈ tl x, c < 128) ∧ ∀ H', Ex H H' → Q (.bl (nameB x)) H'
def spLAmt : Sp := fun vs H Q _ => ∃ x : Str, vs = [.str x] ∧ x.length ≤ 9000 ∧ (∀ c ∈ tl x, c < 128) ∧ ∀ H', Ex H H' → Q (.bl (amtB x)) H'
theorem scLName : FnScope ["word", "sign"] ["word"] (defScope sLName) := ⟨rfl, rfl, rfl, by decide +kernel, rfl, by decide +kernel, by decide +kernel⟩
theorem scLAmt : FnScope ["word", "sign"] ["word"] (defScope sLAmt) := ⟨rfl, rfl, rfl, by decide +kernel, rfl, by decide +kernel, by decide +kernel⟩
section
variable {P : Program} {w : World} {K : PySem.W.Frag} {mg : Str → Option Value} {base : Heap} {f : Addr} {fd : FuncData}
theorem ok_lname (F : Fun K "_law_is_name" "_law_is_name" sLName f fd) (T : Fk.Blt mg) : FnOk P w K mg base CX0 1 f fd ["word"] spLName := by
  have nd := scLName.nd
  refine F.ok scLName (fun vs H Q E h => ?_) (fun cdv A outer s H vs Q E hr h => ?_)
  · obtain ⟨x, rfl, _⟩ := h
    rfl
  · obtain ⟨x, rfl, hl, ha, q⟩ := h
    refine ⟨_, pss_cons (ps_if (PW.pt (pw_or (pt_not (pt_chain op_le op_le pe_int (pe_callB call_len_str (by rfl) T.len PySem.boot_len (pa_cons (pv 0) pa_nil)) pe_int)) (pw_or1 (pt_cmpR op_in_seq (pv 0) (pe_tup (pa_cons pe_str (pa_cons pe_str pa_nil))) (by rfl))))) (pss_one (ps_ret pe_bl)) pss_nil)
      (pss_one (ps_ret (pe_cmpR (op_eqD hr.units) (pe_lc (own := [("sign", 1)]) (g := gName 1) (tt := tTest (tOp rNotInS (tVar 1) (tC (.str az)))) (te := tVar 1) rfl nd (pi_str (pv 0)) (blkOk_by (N := ["word", "sign"]) (sc := defScope sLName) (by decide +kernel))
        (fun _ _ _ _ _ => pg_name (i := 1) nd rfl (Or.inl rfl)) (fun _ _ _ _ _ => pts_one (pt_cmpR op_notInS (pv 1) pe_str (by rfl))) (fun _ _ _ _ _ => pv 1)) (pe_lst pa_nil) (nomark _)))), ?_⟩
    have ls : x.length ≤ sizeLine := by rw [sizeLine_eq]; omega
    refine ⟨_, rfl, x, rfl, ls, _, _, rfl, rfl, _, rfl, ?_⟩
    have eN : nameB x = (decide ((x.length : Int) ≤ 8) && !(inV (.str x) [.str "none", .str "self"]) && Txt.isascii x && Txt.isalpha x && Txt.islower x) := rfl
    by_cases c1 : (1 : Int) ≤ (x.length : Nat)
    · rw [decide_eq_true c1]
      refine ⟨_, _, rfl, rfl, _, rfl, ?_⟩
      by_cases c8 : ((x.length : Nat) : Int) ≤ 8
      · rw [decide_eq_true c8]
        refine ⟨_, rfl, by show 2 ≤ sizeLine; decide, fun t ht => ⟨t, _, rfl, .inr (SqT.of upd_same), rfl, rfl, _, rfl, ?_⟩⟩
        have et := Ex.new (o := .tup [.str "none", .str "self"]) ht
        cases hin : inV (.str x) [.str "none", .str "self"] with
        | true =>
          rw [eN, hin, Bool.not_true, Bool.and_false] at q
          exact q _ et
        | false =>
          have e2 := name_az x (by omega) (by omega) hin
          rw [← e2, ← odds_empty] at q
          refine EvP.go (P := is (.bl (odds az x).isEmpty)) (g_eqNil (g_odds rfl rfl hl (fun _ => rfl) (fun _ => rfl)) (odds_ok ha)) fun v H1 e1 ev => ?_
          rw [show v = _ from ev]
          exact q _ (et.trans e1)
      · rw [decide_eq_false c8]
        rw [eN, decide_eq_false c8] at q
        exact q _ (Ex.refl _)
    · rw [decide_eq_false c1]
      have : x.length = 0 := by omega
      have e0 : nameB x = false := by
        rw [eN]
        unfold Txt.isalpha
        rw [this]
        simp
      rw [e0] at q
      exact ⟨_, rfl, q _ (Ex.refl _)⟩
theorem ok_lamt (F : Fun K "_law_is_amount" "_law_is_amount" sLAmt f fd) : FnOk P w K mg base CX0 1 f fd ["word"] spLAmt := by
  have nd := scLAmt.nd
  refine F.ok scLAmt (fun vs H Q E h => ?_) (fun cdv A outer s H vs Q E hr h => ?_)
  · obtain ⟨x, rfl, _⟩ := h
    rfl
  · obtain ⟨x, rfl, hl, ha, q⟩ := h
    refine ⟨_, pss_one (ps_ret (pe_and (pe_cmpR op_ne (pv 0) pe_str (nomark _)) (pe_and (pe_cmpR (op_eqD hr.units) (pe_lc (own := [("sign", 1)]) (g := gName 1) (tt := tTest (tOp rNotInS (tVar 1) (tC (.str d9)))) (te := tVar 1) rfl nd (pi_str (pv 0)) (blkOk_by (N := ["word", "sign"]) (sc := defScope sLAmt) (by decide +kernel))
        (fun _ _ _ _ _ => pg_name (i := 1) nd rfl (Or.inl rfl)) (fun _ _ _ _ _ => pts_one (pt_cmpR op_notInS (pv 1) pe_str (by rfl))) (fun _ _ _ _ _ => pv 1)) (pe_lst pa_nil) (nomark _))
      (pe_one (pe_cmpR op_ne (pe_item_str (pv 0) pe_int (fun _ _ => rfl)) pe_str (nomark _)))))), ?_⟩
    refine ⟨_, rfl, rfl, _, rfl, ?_⟩
    by_cases c0 : V.str x = V.str ""
    · rw [decide_eq_true c0]
      have e0 : amtB x = false := by
        rw [V.str.inj c0]
        decide +kernel
      rw [e0] at q
      exact q _ (Ex.refl _)
    · rw [decide_eq_false c0]
      have ne : tl x ≠ [] := fun z => c0 (congrArg V.str (Dg.ext z))
      refine EvP.go (P := is (.bl (odds d9 x).isEmpty)) (g_eqNil (g_odds rfl rfl hl (fun _ => rfl) (fun _ => rfl)) (odds_ok ha)) fun v H1 e1 ev => ⟨_, show v = _ from ev, ?_⟩
      have eA : amtB x = ((odds d9 x).isEmpty && decide ((tl x).head? ≠ some 48)) := by
        unfold amtB
        rw [odds_empty, amt_d9, show (tl x).isEmpty = false by simpa using ne]
        simp
      cases ho : (odds d9 x).isEmpty with
      | false =>
        rw [eA, ho] at q
        exact q _ e1
      | true =>
        rw [eA, ho, Bool.true_and] at q
        cases hx : tl x with
        | nil => exact absurd hx ne
        | cons c r =>
          have hs : 0 < x.length := by
            rw [← len_cps]
            show 0 < (tl x).length
            rw [hx]
            exact Nat.succ_pos _
          refine ⟨_, rfl, x, 0, c, rfl, rfl, Int.le_refl _, by decide, by omega, ?_, rfl, ?_⟩
          · rw [← Array.getElem?_toList]
            show (tl x)[0]? = some c
            rw [hx]
            rfl
          · have : (!decide (V.str ⟨#[c]⟩ = V.str "0")) = decide ((tl x).head? ≠ some 48) := by
              rw [hx]
              show (!decide (V.str ⟨#[c]⟩ = V.str "0")) = decide (some c ≠ some 48)
              by_cases e : c = 48
              · subst e
                rfl
              · rw [decide_eq_true (show some c ≠ some 48 from fun z => e (Option.some.inj z))]
                rw [decide_eq_false]
                · rfl
                · intro z
                  have z1 : (⟨#[c]⟩ : Str) = "0" := V.str.inj z
                  have z2 : (#[c] : Array Nat).toList = [48] := congrArg (fun y : Str => y.cps.toList) z1
                  exact e (List.cons.inj z2).1
            rw [this]
            exact q _ e1
end
end Wd

set_option Elab.async false
set_option linter.all false
set_option maxRecDepth 100000
set_option maxHeartbeats 4000000
/-! _law_cells: the pairs of drawn names in a drawn order. -/
namespace Fi
open PySem PySem.Spec PyProof.Rows L2 EvP Cm Fk DtE Tb XG
open K17 (Pen But spPick spDraw)
def keyD (k : List Key) : PyData := .tuple (k.map toD)
theorem dp_keysL {K : PySem.W.Frag} {H : Hp} : ∀ {ks : List (List Key)} {vs : List V}, All2 H (ks.map isK) vs → DpAll K H vs (ks.map keyD)
  | [], _, .nil => .nil
  | k :: ks, _, .cons ⟨_, ev, ha⟩ r => by
    subst ev
    exact .cons (.tup (SqT.of ha) (dp_key k)) (dp_keysL r)
/-- a pair of names -/
def GoodP (k : List Key) : Prop := ∃ a x, k = key2 a x ∧ nameB a = true ∧ nameB x = true
theorem strOk_name {x : Str} (h : nameB x = true) : PyData.strOk x = true := by
  unfold nameB at h
  simp only [Bool.and_eq_true] at h
  have a := h.1.1.2
  unfold Txt.isascii at a
  unfold PyData.strOk
  rw [Array.all_eq_true] at a ⊢
  intro i hi
  have := of_decide_eq_true (a i hi)
  exact decide_eq_true (Nat.lt_trans this (by decide))
theorem GoodP.pairK {k : List Key} (h : GoodP k) : PairK k := by
  obtain ⟨a, x, e, ha, hx⟩ := h
  refine ⟨a, x, e, ⟨a, rfl, ?_, ha⟩, x, rfl, ?_, hx⟩
  · have := (name_small ha).1
    rw [sizeLine_eq]
    omega
  · have := (name_small hx).1
    rw [sizeLine_eq]
    omega
theorem depth_keysL : ∀ {ks : List (List Key)}, (∀ k ∈ ks, GoodP k) → PyData.depthAll (ks.map keyD) ≤ 1
  | [], _ => Nat.zero_le _
  | k :: ks, h => by
    have ih := depth_keysL fun y hy => h y (.tail _ hy)
    show max (PyData.depth (keyD k)) (PyData.depthAll (ks.map keyD)) ≤ 1
    obtain ⟨a, x, et, _⟩ := h k (.head _)
    have : PyData.depth (keyD k) = 1 := by
      subst et
      rfl
    omega
theorem lay_keysL : ∀ {ks : List (List Key)}, (∀ k ∈ ks, GoodP k) → PyData.canLayAll0 (ks.map keyD) = true
  | [], _ => rfl
  | k :: ks, h => by
    have ih := lay_keysL fun y hy => h y (.tail _ hy)
    show (PyData.canLay0 (keyD k) && PyData.canLayAll0 (ks.map keyD)) = true
    rw [ih, Bool.and_true]
    obtain ⟨a, x, et, oa, ox⟩ := h k (.head _)
    subst et
    show (PyData.strOk a && (PyData.strOk x && true)) = true
    rw [strOk_name oa, strOk_name ox]
    rfl
theorem shaped_keysL {ks : List (List Key)} (h : ∀ k ∈ ks, GoodP k) : SeqAt.shaped (.list (ks.map keyD)) = true := by
  have d := depth_keysL h
  show (PyData.canLayAll0 (ks.map keyD) && decide (PyData.depthAll (ks.map keyD) + 1 ≤ 64)) = true
  rw [lay_keysL h, decide_eq_true (by omega)]
  rfl
theorem eqv_keysL (ks : List (List Key)) : PyData.eqv (.list (ks.map keyD)) (.list []) = ks.isEmpty := by
  cases ks <;> rfl
/-- pairs of names, each once -/
structure GoodK (ks : List (List Key)) : Prop where
  nod : ks.Nodup
  key : ∀ k ∈ ks, GoodP k
  few : ks.length ≤ 9
def onesL : List (List Str) := [["a", "b", "c"], ["x", "y"], ["zz", "use"], ["q"], ["a", "ab", "abc"]]
def twosL : List (List Str) := [["x", "y", "z"], ["a", "x"], ["total"], ["abcdefgh", "b"], ["z", "b", "c"]]
theorem names_ok : (∀ l ∈ onesL, ∀ x ∈ l, nameB x = true) ∧ ∀ l ∈ twosL, ∀ x ∈ l, nameB x = true := by decide +kernel
theorem cross_ok : ∀ o ∈ onesL, ∀ t ∈ twosL, (crossK o t).Nodup ∧ (crossK o t).length ≤ 9 ∧ o.length ≤ 10 ∧ t.length ≤ 10 := by decide +kernel
theorem cross_good {o t : List Str} (ho : o ∈ onesL) (ht : t ∈ twosL) : GoodK (crossK o t) := by
  obtain ⟨h1, h2, _⟩ := cross_ok o ho t ht
  refine ⟨h1, fun k hk => ?_, h2⟩
  unfold crossK at hk
  obtain ⟨a, ha, hk⟩ := List.mem_flatMap.mp hk
  obtain ⟨x, hx, rfl⟩ := List.mem_map.mp hk
  exact ⟨a, x, rfl, names_ok.1 o ho a ha, names_ok.2 t ht x hx⟩
theorem strs_ne {ss : List Str} {q : Addr} {s g : Int} : HO.lst (ss.map V.str) ≠ HO.lst [.ref q, .int s, .int g] := fun z => by
  cases ss with
  | nil => cases z
  | cons a r => cases (List.cons.inj (HO.lst.inj z)).1
theorem keys_but2 {H G : Hp} {p : Addr} {zs : List V} (hx : H p = some (.lst zs)) (k : But p H G) : ∀ {ks : List (List Key)} {vs : List V}, All2 H (ks.map isK) vs → All2 G (ks.map isK) vs
  | [], _, .nil => .nil
  | _ :: _, _, .cons ⟨b, ev, hb⟩ r => .cons ⟨b, ev, k _ _ hb (ne_of hb hx fun z => nomatch z)⟩ (keys_but2 hx k r)
abbrev sCells : Stmt := top 44
abbrev NCe : List Str := ["pen", "sources_so", "uses_so", "left", "found"]
theorem scCells : FnScope NCe ["pen"] (defScope sCells) := ⟨rfl, rfl, rfl, by decide +kernel, rfl, by decide +kernel, by decide +kernel⟩
def spCells : Sp := fun vs H Q _ => ∃ (p q : Addr) (ns : List Int) (s g : Int), vs = [.ref p] ∧ Pen H p q ns s g ∧ ns.length ≤ 63 ∧ 0 ≤ s ∧ s < 99000 ∧
  ∀ (f : Addr) (ks : List (List Key)) (acc : List V) (s' g' : Int) (H' : Hp), GoodK ks → H f = none → H' f = some (.lst acc) → All2 H' (ks.map isK) acc → s ≤ s' → s' ≤ s + 11 → Pen H' p q ns s' g' → But p H H' → Q (.ref f) H'
theorem g_lits {σ : L2.St} {H : Hp} (ss : List Str) {ta : TA} (h : EvP.GivesA ta σ H ((ss.map V.str).map is)) (hz : ss.length ≤ 1000) : EvP.Gives (tLst ta) σ H (lstV (ss.map V.str)) :=
  Fk.Gives.imp (EvP.list (H0 := H) (Ps := (ss.map V.str).map is) (Ex.refl _) h (by rw [List.length_map, List.length_map]; exact hz)) fun v H h => Wd.lst_is h
theorem erase_perm {α : Type} : ∀ (l : List α) (i : Nat) (h : i < l.length), (l[i] :: l.eraseIdx i).Perm l
  | x :: r, 0, _ => List.Perm.refl _
  | x :: r, i + 1, h => (List.Perm.swap x _ _).trans (List.Perm.cons x (erase_perm r i (Nat.lt_of_succ_lt_succ h)))
theorem all2_erase {H : Hp} : ∀ {ks : List (List Key)} {vs : List V} (i : Nat), All2 H (ks.map isK) vs → All2 H ((ks.eraseIdx i).map isK) (vs.eraseIdx i)
  | [], _, _, .nil => .nil
  | _ :: _, _, 0, .cons _ r => r
  | _ :: _, _, i + 1, .cons a r => .cons a (all2_erase i r)
section
variable {P : Program} {w : World} {K : PySem.W.Frag} {mg : Str → Option Value} {base : Heap} {f fD fP fC : Addr} {fd fdD fdP fdC : FuncData}
theorem ok_cells (F : Fun K "_law_cells" "_law_cells" sCells f fd) (T : K17.Blt mg) (G : FnOk P w K mg base CX0 1 fD fdD ["pen", "many"] spDraw) (b : Binds K fdD ["pen", "many"] []) (gD : mg "_law_draw" = some (.ref fD)) (kD : PySem.W.keepIn K (.ref fD) = true)
    (GP : FnOk P w K mg base CX0 2 fP fdP ["pen", "some"] spPick) (bP : Binds K fdP ["pen", "some"] []) (gP : mg "_law_pick" = some (.ref fP)) (kP : PySem.W.keepIn K (.ref fP) = true)
    (GC : FnOk P w K mg base CX0 1 fC fdC ["ones", "twos"] spCross) (bC : Binds K fdC ["ones", "twos"] []) (gC : mg "_law_crossed" = some (.ref fC)) (kC : PySem.W.keepIn K (.ref fC) = true) : FnOk P w K mg base CX0 3 f fd ["pen"] spCells := by
  have nd := scCells.nd
  refine F.ok scCells (fun vs H Q E h => ?_) (fun cdv A outer s0 H vs Q E hr h => ?_)
  · obtain ⟨p, q, ns, s, g, rfl, _⟩ := h
    rfl
  · obtain ⟨p, q, ns, s, g, rfl, hP, hl, h0, h1, k⟩ := h
    refine ⟨_, pss_cons (ps_set (i := 1) nd rfl (Or.inl rfl) (pe_call GP hr (by rfl) gP kP bP .nil pass0 (pa_cons (pv 0) (pa_cons (pe_lst (pa_cons (pe_lst (pa_cons pe_str (pa_cons pe_str (pa_cons pe_str pa_nil)))) (pa_cons (pe_lst (pa_cons pe_str (pa_cons pe_str pa_nil))) (pa_cons (pe_lst (pa_cons pe_str (pa_cons pe_str pa_nil))) (pa_cons (pe_lst (pa_cons pe_str pa_nil)) (pa_cons (pe_lst (pa_cons pe_str (pa_cons pe_str (pa_cons pe_str pa_nil)))) pa_nil)))))) pa_nil))))
      (pss_cons (ps_set (i := 2) nd rfl (Or.inl rfl) (pe_call GP hr (by rfl) gP kP bP .nil pass0 (pa_cons (pv 0) (pa_cons (pe_lst (pa_cons (pe_lst (pa_cons pe_str (pa_cons pe_str (pa_cons pe_str pa_nil)))) (pa_cons (pe_lst (pa_cons pe_str (pa_cons pe_str pa_nil))) (pa_cons (pe_lst (pa_cons pe_str pa_nil)) (pa_cons (pe_lst (pa_cons pe_str (pa_cons pe_str pa_nil))) (pa_cons (pe_lst (pa_cons pe_str (pa_cons pe_str (pa_cons pe_str pa_nil)))) pa_nil)))))) pa_nil))))
      (pss_cons (ps_par (i := 3) (j := 4) (by rfl) nd rfl rfl (by decide) rfl rfl (pa_cons (pe_call GC (hr.mono (by decide)) (by rfl) gC kC bC .nil pass0 (pa_cons (pv 1) (pa_cons (pv 2) pa_nil))) (pa_cons (pe_lst pa_nil) pa_nil)) (by rfl))
      (pss_cons (ps_while PassesOwn.never (pt_cmpR (op_neD hr.units) (pv 3) (pe_lst pa_nil) (nomark _))
        (pss_one (ps_expr (pe_bm PySem.F.plainAttrs_list PySem.F.slot_list_append PySem.F.type_list_append mt_append (pv 4) (pa_cons (pe_bm PySem.F.plainAttrs_list PySem.F.slot_list_pop PySem.F.type_list_pop mt_popAt (pv 3) (pa_cons (pe_call G (hr.mono (by decide)) (by rfl) gD kD b .nil pass0 (pa_cons (pv 0) (pa_cons (pe_callB call_len_seq (by rfl) T.len PySem.boot_len (pa_cons (pv 3) pa_nil)) pa_nil))) pa_nil)) pa_nil)))))
      (pss_one (ps_ret (pv 4)))))), ?_⟩
    -- sources_so
    refine ⟨_, rfl, ?_⟩
    refine EvP.go (P := lst H (onesL.map fun l => lstV (l.map V.str))) (EvP.list (H0 := H) (Ex.refl _) (EvP.cons (g_lits ["a", "b", "c"] (EvP.cons EvP.cst (EvP.cons EvP.cst (EvP.cons EvP.cst EvP.nil))) (by decide)) (EvP.cons (g_lits ["x", "y"] (EvP.cons EvP.cst (EvP.cons EvP.cst EvP.nil)) (by decide)) (EvP.cons (g_lits ["zz", "use"] (EvP.cons EvP.cst (EvP.cons EvP.cst EvP.nil)) (by decide)) (EvP.cons (g_lits ["q"] (EvP.cons EvP.cst EvP.nil) (by decide)) (EvP.cons (g_lits ["a", "ab", "abc"] (EvP.cons EvP.cst (EvP.cons EvP.cst (EvP.cons EvP.cst EvP.nil))) (by decide)) EvP.nil))))) (by show 5 ≤ 1000; decide)) fun v H1 e1 hv => ?_
    obtain ⟨l1, v1, rfl, hl1, nl1, al1⟩ := hv
    have lp1 : l1 ≠ p := (ne_of_none hP.p nl1).symm
    have len1 := al1.length
    have hP1 : Pen H1 p q ns s g := ⟨e1 _ _ hP.p, e1 _ _ hP.q⟩
    refine ⟨p, q, ns, s, g, l1, v1, rfl, hP1, hl, h0, by omega, hl1, lp1, by rw [len1]; show 0 < 5; decide, by rw [len1]; show 5 < 100000; decide, fun v s2 g2 H2 hv a0 a1 hP2 hB2 => ?_⟩
    obtain ⟨ones, ho, va, rfl, hva⟩ : ∃ ones, ones ∈ onesL ∧ ∃ a, v = .ref a ∧ H2 a = some (.lst (ones.map V.str)) := by
      obtain ⟨j, hj⟩ := List.mem_iff_getElem?.mp hv
      have jl : j < onesL.length := by
        have := (List.getElem?_eq_some_iff.mp hj).1
        rw [List.length_map] at len1
        omega
      obtain ⟨x, hx, a, ex, ha⟩ := al1.get (i := j) (P := lstV (onesL[j].map V.str)) (by rw [List.getElem?_map, List.getElem?_eq_getElem jl]; rfl)
      rw [hj] at hx
      cases hx
      exact ⟨_, List.getElem_mem jl, a, ex, hB2 _ _ ha (ne_of ha hP1.p strs_ne)⟩
    have b2 : But p H H2 := fun b o hb nb => hB2 b o (e1 _ _ hb) nb
    -- uses_so
    refine ⟨_, rfl, ?_⟩
    refine EvP.go (P := lst H2 (twosL.map fun l => lstV (l.map V.str))) (EvP.list (H0 := H2) (Ex.refl _) (EvP.cons (g_lits ["x", "y", "z"] (EvP.cons EvP.cst (EvP.cons EvP.cst (EvP.cons EvP.cst EvP.nil))) (by decide)) (EvP.cons (g_lits ["a", "x"] (EvP.cons EvP.cst (EvP.cons EvP.cst EvP.nil)) (by decide)) (EvP.cons (g_lits ["total"] (EvP.cons EvP.cst EvP.nil) (by decide)) (EvP.cons (g_lits ["abcdefgh", "b"] (EvP.cons EvP.cst (EvP.cons EvP.cst EvP.nil)) (by decide)) (EvP.cons (g_lits ["z", "b", "c"] (EvP.cons EvP.cst (EvP.cons EvP.cst (EvP.cons EvP.cst EvP.nil))) (by decide)) EvP.nil))))) (by show 5 ≤ 1000; decide)) fun v H3 e3 hv => ?_
    obtain ⟨l3, v3, rfl, hl3, nl3, al3⟩ := hv
    have lp3 : l3 ≠ p := (ne_of_none hP2.p nl3).symm
    have len3 := al3.length
    have hP3 : Pen H3 p q ns s2 g2 := ⟨e3 _ _ hP2.p, e3 _ _ hP2.q⟩
    refine ⟨p, q, ns, s2, g2, l3, v3, rfl, hP3, hl, by omega, by omega, hl3, lp3, by rw [len3]; show 0 < 5; decide, by rw [len3]; show 5 < 100000; decide, fun v s4 g4 H4 hv c0 c1 hP4 hB4 => ?_⟩
    obtain ⟨twos, ht, vb, rfl, hvb⟩ : ∃ twos, twos ∈ twosL ∧ ∃ a, v = .ref a ∧ H4 a = some (.lst (twos.map V.str)) := by
      obtain ⟨j, hj⟩ := List.mem_iff_getElem?.mp hv
      have jl : j < twosL.length := by
        have := (List.getElem?_eq_some_iff.mp hj).1
        rw [List.length_map] at len3
        omega
      obtain ⟨x, hx, a, ex, ha⟩ := al3.get (i := j) (P := lstV (twosL[j].map V.str)) (by rw [List.getElem?_map, List.getElem?_eq_getElem jl]; rfl)
      rw [hj] at hx
      cases hx
      exact ⟨_, List.getElem_mem jl, a, ex, hB4 _ _ ha (ne_of ha hP3.p strs_ne)⟩
    have b4 : But p H H4 := fun b o hb nb => hB4 b o (e3 _ _ (b2 b o hb nb)) nb
    have hva4 := hB4 _ _ (e3 _ _ hva) (ne_of hva hP2.p strs_ne)
    obtain ⟨_, _, lo, lt⟩ := cross_ok ones ho twos ht
    have good := cross_good ho ht
    -- left, found
    refine ⟨_, rfl, _, rfl, va, vb, ones, twos, rfl, hva4, hvb, lo, lt, fun L H5 accL e5 nL hL aL => ?_⟩
    refine ⟨by show 0 ≤ sizeLine; decide, fun R nR => ⟨_, _, rfl, ?_⟩⟩
    have eR := Ex.new (o := .lst []) nR
    have LR : L ≠ R := ne_of_none hL nR
    have HL : H L = none := by
      cases hh : H L with
      | none => rfl
      | some o =>
        exfalso
        by_cases c : L = p
        · rw [c, hP4.p] at nL
          cases nL
        · rw [b4 L o hh c] at nL
          cases nL
    have HR : H R = none := by
      cases hh : H R with
      | none => rfl
      | some o =>
        exfalso
        by_cases c : R = p
        · rw [c, e5 _ _ hP4.p] at nR
          cases nR
        · rw [e5 _ _ (b4 R o hh c)] at nR
          cases nR
    have Lp : L ≠ p := (ne_of_none hP4.p nL).symm
    have Lq : L ≠ q := (ne_of_none hP4.q nL).symm
    have Rp : R ≠ p := (ne_of_none (e5 _ _ hP4.p) nR).symm
    have Rq : R ≠ q := (ne_of_none (e5 _ _ hP4.q) nR).symm
    refine ⟨fun μ σ H' => ∃ (rem fnd : List (List Key)) (aL aF : List V) (s6 g6 : Int), μ = rem.length ∧ σ = [some (.ref p), some (.ref va), some (.ref vb), some (.ref L), some (.ref R)] ∧ H' L = some (.lst aL) ∧ All2 H' (rem.map isK) aL ∧ H' R = some (.lst aF) ∧ All2 H' (fnd.map isK) aF ∧
      (fnd ++ rem).Perm (crossK ones twos) ∧ s ≤ s6 ∧ s6 ≤ s + 2 + (fnd.length : Int) ∧ Pen H' p q ns s6 g6 ∧ But p H H', ⟨_, crossK ones twos, [], accL, [], s4, g4, rfl, rfl, eR _ _ hL, aL.ex eR, upd_same, .nil, List.Perm.refl _, by omega, by show s4 ≤ s + 2 + 0; omega, ⟨eR _ _ (e5 _ _ hP4.p), eR _ _ (e5 _ _ hP4.q)⟩, fun b o hb nb => eR _ _ (e5 _ _ (b4 b o hb nb))⟩, fun μ σ H6 hW => ?_⟩
    obtain ⟨rem, fnd, aL6, aF6, s6, g6, rfl, rfl, r1, r2, r3, r4, r5, r6, r7, hP6, hB6⟩ := hW
    have gr : ∀ k ∈ rem, GoodP k := fun k hk => good.key k (r5.mem_iff.mp (List.mem_append_right _ hk))
    have ln := r5.length_eq
    rw [List.length_append] at ln
    have few := good.few
    refine ⟨_, rfl, by show 0 ≤ sizeLine; decide, fun e he => ?_⟩
    have ee := Ex.new (o := .lst []) he
    refine ⟨.list (rem.map keyD), .list [], .lst (SqL.of (ee _ _ r1)) (dp_keysL (r2.ex ee)), .lst (SqL.of upd_same) .nil, shaped_keysL gr, by decide +kernel, _, rfl, ?_⟩
    rw [eqv_keysL]
    have hP7 : Pen (upd H6 e (.lst [])) p q ns s6 g6 := ⟨ee _ _ hP6.p, ee _ _ hP6.q⟩
    have hB7 : But p H (upd H6 e (.lst [])) := fun b o hb nb => ee _ _ (hB6 b o hb nb)
    have r1' := ee _ _ r1
    have r2' := r2.ex ee
    have r3' := ee _ _ r3
    have r4' := r4.ex ee
    generalize upd H6 e (.lst []) = H7 at hP7 hB7 r1' r2' r3' r4' ⊢
    cases rem with
    | nil =>
      show (if (!true) = true then _ else _)
      rw [if_neg (by decide)]
      refine ⟨_, rfl, k R fnd aF6 s6 g6 H7 ⟨?_, fun k hk => good.key k (r5.mem_iff.mp (List.mem_append_left _ hk)), by omega⟩ HR r3' r4' r6 (by rw [List.length_nil] at ln; omega) hP7 hB7⟩
      rw [List.append_nil] at r5
      exact r5.nodup_iff.mpr good.nod
    | cons k0 rem0 =>
      show (if (!false) = true then _ else _)
      rw [if_pos (by decide)]
      generalize hrem : k0 :: rem0 = rem at r1' r2' r5 ln gr ⊢
      have rl : 0 < rem.length := by rw [← hrem]; exact Nat.succ_pos _
      have lL : aL6.length = rem.length := keys_len r2'
      have lF : aF6.length = fnd.length := keys_len r4'
      refine ⟨fun σ' H' => ∃ m' : Nat, m' < rem.length ∧ ∃ (rem' fnd' : List (List Key)) (aL aF : List V) (s6 g6 : Int), m' = rem'.length ∧ σ' = [some (.ref p), some (.ref va), some (.ref vb), some (.ref L), some (.ref R)] ∧ H' L = some (.lst aL) ∧ All2 H' (rem'.map isK) aL ∧ H' R = some (.lst aF) ∧ All2 H' (fnd'.map isK) aF ∧
        (fnd' ++ rem').Perm (crossK ones twos) ∧ s ≤ s6 ∧ s6 ≤ s + 2 + (fnd'.length : Int) ∧ Pen H' p q ns s6 g6 ∧ But p H H', fun σ' H' h => h, ?_⟩
      refine ⟨_, rfl, .inl ⟨rfl, _, SqL.of r3'⟩, _, rfl, .inl ⟨rfl, _, SqL.of r1'⟩, _, rfl, _, rfl, L, _, rfl, .inl (SqL.of r1'), p, q, ns, s6, g6, _, rfl, hP7, hl, by omega, by omega, by rw [lL]; omega, by rw [lL]; omega, fun m s8 g8 H8 m0 m1 d0 d1 hP8 hB8 => ?_⟩
      rw [lL] at m1
      have kl : m.toNat < rem.length := by omega
      have kl2 : m.toNat < aL6.length := by omega
      have l8 := hB8 L _ r1' Lp
      have f8 := hB8 R _ r3' Rp
      have a8 := keys_but2 hP7.p hB8 r2'
      have b8 := keys_but2 hP7.p hB8 r4'
      have six : seqIndex? m aL6.length = some m.toNat := by
        simp [seqIndex?, show ¬ m < 0 by omega, m0, show m < (aL6.length : Nat) by omega]
      obtain ⟨it, hit, a, eit, hia⟩ := a8.get (i := m.toNat) (P := isK rem[m.toNat]) (by rw [List.getElem?_map, List.getElem?_eq_getElem kl]; rfl)
      refine ⟨L, aL6, m, m.toNat, it, rfl, rfl, l8, by omega, by omega, six, hit, ?_⟩
      have kU : ∀ {ks : List (List Key)} {vs : List V}, All2 H8 (ks.map isK) vs → All2 (upd H8 L (.lst (aL6.eraseIdx m.toNat))) (ks.map isK) vs := fun h => keys_upd l8 (fun _ z => nomatch z) h
      have f9 : upd H8 L (.lst (aL6.eraseIdx m.toNat)) R = some (.lst aF6) := by rw [upd_ne LR.symm]; exact f8
      refine ⟨R, aF6, it, rfl, rfl, f9, by rw [sizeLine_eq]; omega, rem.length - 1, by omega, rem.eraseIdx m.toNat, fnd ++ [rem[m.toNat]], aL6.eraseIdx m.toNat, aF6 ++ [it], s8, g8, ?_, rfl, ?_, ?_, upd_same, ?_, ?_, by omega, ?_, ?_, ?_⟩
      · rw [List.length_eraseIdx_of_lt kl]
      · rw [upd_ne LR]
        exact upd_same
      · exact keys_upd f9 (fun _ z => nomatch z) (kU (all2_erase _ a8))
      · refine keys_upd f9 (fun _ z => nomatch z) ?_
        rw [List.map_append]
        refine all2_snoc (kU b8) (P := isK rem[m.toNat]) ⟨a, eit, ?_⟩
        rw [upd_ne (ne_of hia l8 fun z => nomatch z)]
        exact hia
      · rw [List.append_assoc]
        exact (List.Perm.append_left _ (erase_perm rem _ kl)).trans r5
      · rw [List.length_append]
        show s8 ≤ s + 2 + ((fnd.length + 1 : Nat) : Int)
        omega
      · exact ⟨by rw [upd_ne Rp.symm, upd_ne Lp.symm]; exact hP8.p, by rw [upd_ne Rq.symm, upd_ne Lq.symm]; exact hP8.q⟩
      · intro b o hb nb
        rw [upd_ne (ne_of_none hb HR), upd_ne (ne_of_none hb HL)]
        exact hB8 b o (hB7 b o hb nb) nb
end
end Fi

set_option Elab.async false
set_option linter.all false
set_option maxRecDepth 100000
set_option maxHeartbeats 4000000
/-! dict(l) of a list of pairs whose first parts are tuples. -/
namespace L2
open PySem PySem.Spec PyProof.Rows
/-- the pairs: each at p a tuple of the key's address and the value -/
def KPairs (K : PySem.W.Frag) (H : Hp) (ps : List Addr) (kbs : List (List Key × Addr × V)) : Prop := Paired (fun p (kb : List Key × Addr × V) => SqT K H p [V.ref kb.2.1, kb.2.2] ∧ H kb.2.1 = some (.tup (kb.1.map kV))) ps kbs
def rDictT (K : PySem.W.Frag) : List V → Hp → VK → Prop := fun xs H Q => ∃ (a : Addr) (ps : List Addr) (kbs : List (List Key × Addr × V)), xs = [.ref a] ∧ SqL K H a (ps.map V.ref) ∧ KPairs K H ps kbs ∧ (kbs.map (·.1)).Nodup ∧ ∀ p, H p = none → Q (.ref p) (upd H p (.dT (kbs.map fun x => (x.1, x.2.2))))
theorem storedAllH_nod {κ : Type} [DecidableEq κ] : ∀ (qs acc : List (κ × Addr × Value)), ((acc ++ qs).map (·.1)).Nodup → storedAllH acc qs = acc ++ qs
  | [], acc, _ => by simp [storedAllH]
  | q :: qs, acc, h => by
    have n : atKey acc q.1 = none := by
      unfold atKey
      rw [Option.map_eq_none_iff, List.find?_eq_none]
      intro x hx e
      rw [List.map_append, List.nodup_append] at h
      exact h.2.2 x.1 (List.mem_map.mpr ⟨x, hx, rfl⟩) q.1 (by simp) (of_decide_eq_true e)
    have e : storedAllH acc (q :: qs) = storedAllH (acc ++ [q]) qs := by
      show storedAllH (storedH acc q.1 q.2.1 q.2.2) qs = _
      rw [storedH_new n]
    rw [e, storedAllH_nod qs (acc ++ [q]) (by rw [List.append_assoc]; exact h), List.append_assoc]
    rfl
section
variable {X : Cx}
theorem kpairs_of {pins : List (Addr × Obj)} {σ : St} {H : Hp} {s : Shared} (I : Inv X pins σ H s) {ps : List Addr} {kbs : List (List Key × Addr × V)} (h : KPairs X.K H ps kbs) :
    ∃ qs : List (List Key × Addr × Value), KT H (kbs.map fun x => (x.1, x.2.2)) qs ∧ qs.length = ps.length ∧ qs.map (·.1) = kbs.map (·.1) ∧ ∀ (j : Nat) (q : List Key × Addr × Value), qs[j]? = some q → ∃ p, ps[j]? = some p ∧ IsTup s.heap p #[Value.ref q.2.1, q.2.2] := by
  unfold KPairs at h
  induction h with
  | nil => exact ⟨[], .nil, rfl, rfl, fun j q e => by simp at e⟩
  | @cons p kb ps kbs h t ih =>
    obtain ⟨qs, r, hl, hk, hp⟩ := ih
    obtain ⟨its, rv, ht, _⟩ := I.tuple h.1
    obtain ⟨u, y, ei, ru, ry⟩ := vals2 rv
    subst ei
    obtain rfl : u = Value.ref kb.2.1 := ru
    refine ⟨(kb.1, kb.2.1, y) :: qs, .cons ⟨rfl, h.2, ry⟩ r, by rw [List.length_cons, List.length_cons, hl], by rw [List.map_cons, List.map_cons, hk], fun j q e => ?_⟩
    cases j with
    | zero =>
      obtain rfl : (kb.1, kb.2.1, y) = q := Option.some.inj e
      exact ⟨p, rfl, ht⟩
    | succ j =>
      obtain ⟨p', e1, e2⟩ := hp j q (by simpa using e)
      exact ⟨p', by simpa using e1, e2⟩
theorem call_dictT (hcalm : X.calm = true) (hu : X.A.units + 2 < cLine) : CallR X (.type "dict") (rDictT X.K) := by
  intro pins s σ H xs us Q I r q
  obtain ⟨a, ps, kbs, ex, hq, hp, nod, q⟩ := q
  subst ex
  obtain ⟨u, eu, rx⟩ := vals1 r
  subst eu
  cases rx
  obtain ⟨its, rv, pl, hz⟩ := I.list hq
  have ei := refs_at rv
  subst ei
  rw [List.length_map] at hz
  obtain ⟨qs, rel, hl, hk, hpr⟩ := kpairs_of I hp
  have lk : kbs.length = qs.length := by
    have := congrArg List.length hk
    rw [List.length_map, List.length_map] at this
    exact this.symm
  obtain ⟨o, n, ho, hc, hd, hdat⟩ := pl
  have isk : ∀ x ∈ qs, (tupleKind (mixKind X.prog X.w)).is s.heap x.1 x.2.1 := by
    have all : ∀ {l : List (List Key × V)} {m : List (List Key × Addr × Value)}, KT H l m → ∀ x ∈ m, (tupleKind (mixKind X.prog X.w)).is s.heap x.1 x.2.1 := by
      intro l m q
      induction q with
      | nil => intro x hx; exact nomatch hx
      | @cons p q ps qs hq t ih =>
        intro x hx
        rcases List.mem_cons.mp hx with e | hx
        · subst e
          exact key_of I.hok (by rw [← hq.1]; exact hq.2.1)
        · exact ih x hx
    exact all rel
  have pi : PairItems s.heap ((ps.map Value.ref).toArray) (fun j => ps.getD j 0) (qs.map fun q => (Value.ref q.2.1, q.2.2)) := by
    refine ⟨by simp [hl], fun j k v hj => ?_⟩
    rw [List.getElem?_map] at hj
    obtain ⟨q, hq', e⟩ := Option.map_eq_some_iff.mp hj
    obtain ⟨rfl, rfl⟩ := Prod.mk.inj e
    obtain ⟨p, e1, o', e2, e3, n', e4⟩ := hpr j q hq'
    refine ⟨by simp [e1], .inl ?_⟩
    have : ps.getD j 0 = p := by simp [List.getD, e1]
    show s.heap.IsTuple (ps.getD j 0) _
    rw [this]
    exact ⟨o', e2, e3, n', e4⟩
  refine call_dict_pairsH (knd := tupleKind (mixKind X.prog X.w)) (ps := qs) (PairArg.list a _ _ (qs.map fun q => (Value.ref q.2.1, q.2.2))) (I.ok.hd hcalm) hu ⟨⟨o, n, ho, hc, hd, hdat⟩, pi⟩ ⟨by rw [List.length_map], fun i key v hi => ?_⟩ (fun h' keep x hx => ?_) (by rw [List.length_map, hl]; exact hz) fun h' tk hd' keep => ?_
  · obtain ⟨q, hq', e⟩ := Option.map_eq_some_iff.mp (by rw [← List.getElem?_map]; exact hi)
    obtain ⟨rfl, rfl⟩ := Prod.mk.inj e
    exact ⟨q.1, q.2.1, hq', rfl⟩
  · obtain ⟨ox, itx, nx, h1, h2, h3, h4⟩ := isk x hx
    exact ⟨ox, itx, nx, keep _ _ (Nat.ne_of_lt (Heap.lt_size h1)) List.not_mem_nil h1, h2, h3, h4⟩
  · rw [storedAllH_nod qs [] (by rw [List.nil_append, hk]; exact nod), List.nil_append] at hd'
    obtain ⟨o2, es, ep, g1, g2, g3, g4, g5, g6⟩ := hd'
    have hm : (s.heap.objs.size == sysModules) = false := beq_eq_false_iff_ne.mpr (Nat.ne_of_gt I.big)
    have fr := I.hok.fresh (Nat.le_refl _)
    refine ⟨.ref s.heap.objs.size, upd H s.heap.objs.size (.dT (kbs.map fun x => (x.1, x.2.2))), I.laid (t' := tk) (fun b o e => keep b o List.not_mem_nil e) (Nat.le_refl _) ?_, rfl, q _ fr⟩
    refine ⟨by rw [List.length_map, lk, hl]; exact hz, hm, qs, Paired.mapP rel fun x y z => ⟨z.1, ?_, z.2.2⟩, o2, es, ep, g1, g2, g3, g4, g6⟩
    rw [upd_ne (ne_of_none z.2.1 fr)]
    exact z.2.1
end
end L2

set_option Elab.async false
set_option linter.all false
set_option maxRecDepth 100000
set_option maxHeartbeats 4000000
/-! _law_plain: drawn amounts of some pairs. -/
namespace Fi
open PySem PySem.Spec PyProof.Rows L2 EvP Cm Fk DtE Tb XG
open K17 (Pen But spPick spDraw spAmount)
/-- keys and values at addresses: the pairs of a list -/
def KPH (H : Hp) (ps : List Addr) (kbs : List (List Key × Addr × V)) : Prop := Paired (fun p (kb : List Key × Addr × V) => H p = some (.tup [V.ref kb.2.1, kb.2.2]) ∧ H kb.2.1 = some (.tup (kb.1.map kV))) ps kbs
theorem KPH.mono {H H' : Hp} {ps : List Addr} {kbs : List (List Key × Addr × V)} (h : KPH H ps kbs) (k : ∀ b ys, H b = some (.tup ys) → H' b = some (.tup ys)) : KPH H' ps kbs := Paired.mapP h fun _ _ z => ⟨k _ _ z.1, k _ _ z.2⟩
theorem KPH.snoc {H : Hp} {ps : List Addr} {kbs : List (List Key × Addr × V)} {p : Addr} {kb : List Key × Addr × V} (h : KPH H ps kbs) (h1 : H p = some (.tup [V.ref kb.2.1, kb.2.2])) (h2 : H kb.2.1 = some (.tup (kb.1.map kV))) : KPH H (ps ++ [p]) (kbs ++ [kb]) := Paired.snoc h ⟨h1, h2⟩
/-- drawn amounts of pairs -/
structure DrawnF (r : TRow) : Prop where
  nod : (r.map (·.1)).Nodup
  key : ∀ t ∈ r, GoodP t.1
  lo : ∀ t ∈ r, 0 ≤ t.2
  hi : ∀ t ∈ r, t.2 ≤ 10 ^ 29
  few : r.length ≤ 9
theorem DrawnF.amts {r : TRow} (d : DrawnF r) : Amts r := ⟨d.nod, fun t ht => (d.key t ht).pairK, d.lo, by have := d.few; omega⟩
abbrev sPlain : Stmt := top 45
abbrev NPl : List Str := ["pen", "cells", "pair"]
theorem scPlain : FnScope NPl ["pen", "cells"] (defScope sPlain) := ⟨rfl, rfl, rfl, by decide +kernel, rfl, by decide +kernel, by decide +kernel⟩
def spPlain : Sp := fun vs H Q _ => ∃ (p q c : Addr) (ns : List Int) (s g : Int) (ks : List (List Key)) (acc : List V), vs = [.ref p, .ref c] ∧ Pen H p q ns s g ∧ ns.length ≤ 63 ∧ 0 ≤ s ∧ s < 98000 ∧ GoodK ks ∧ H c = some (.lst acc) ∧ c ≠ p ∧ All2 H (ks.map isK) acc ∧
  ∀ (d : Addr) (r : TRow) (s' g' : Int) (H' : Hp), DrawnF r → H' d = some (.dT (tents r)) → d ≠ p → s ≤ s' → s' ≤ s + 30 → Pen H' p q ns s' g' → But p H H' → Q (.ref d) H'
section
variable {P : Program} {w : World} {K : PySem.W.Frag} {mg : Str → Option Value} {base : Heap} {f fD fA : Addr} {fd fdD fdA : FuncData}
theorem ok_plainF (F : Fun K "_law_plain" "_law_plain" sPlain f fd) (hD : mg "dict" = none) (G : FnOk P w K mg base CX0 1 fD fdD ["pen", "many"] spDraw) (b : Binds K fdD ["pen", "many"] []) (gD : mg "_law_draw" = some (.ref fD)) (kD : PySem.W.keepIn K (.ref fD) = true)
    (GA : FnOk P w K mg base CX0 3 fA fdA ["pen"] spAmount) (bA : Binds K fdA ["pen"] []) (gA : mg "_law_amount" = some (.ref fA)) (kA : PySem.W.keepIn K (.ref fA) = true) : FnOk P w K mg base CX0 4 f fd ["pen", "cells"] spPlain := by
  have nd := scPlain.nd
  refine F.ok scPlain (fun vs H Q E h => ?_) (fun cdv A outer s0 H vs Q E hr h => ?_)
  · obtain ⟨p, q, c, ns, s, g, ks, acc, rfl, _⟩ := h
    rfl
  · obtain ⟨p, q, c, ns, s, g, ks, acc, rfl, hP, hl, h0, h1, gk, hc, cp, al, k⟩ := h
    have hu2 : A.units + 3 + 2 < cLine := by
      have : A.units + 3 + 16 * 3 + 200 < cLine := hr.un
      omega
    refine ⟨_, pss_one (ps_ret (pe_callTy (T := "dict") (call_dictT rfl hu2) (by rfl) hD (by decide +kernel) (pa_cons (pe_lc (own := [("pair", 2)]) (g := gName 2)
        (tt := tTest (tOp (rI0 fun i j => .bl (decide (j < i))) (tCall spDraw [] E0 (tCons (tVar 0) (tCons (tC (.int 3)) tNil))) (tC (.int 0)))) (te := tTup (tCons (tVar 2) (tCons (tCall spAmount [] E0 (tCons (tVar 0) tNil)) tNil))) rfl nd (pi_list (pv 1)) (blkOk_by (N := NPl) (sc := defScope sPlain) (by decide +kernel))
        (fun _ _ _ _ _ => pg_name (i := 2) nd rfl (Or.inl rfl)) (fun _ _ _ _ _ => pts_one (pt_cmpR op_gt (pe_call G (hr.mono (by decide)) (by rfl) gD kD b .nil pass0 (pa_cons (pv 0) (pa_cons pe_int pa_nil))) pe_int (nomark _)))
        (fun _ _ _ _ _ => pe_tup (pa_cons (pv 2) (pa_cons (pe_call GA (hr.mono (by decide)) (by rfl) gA kA bA .nil pass0 (pa_cons (pv 0) pa_nil)) pa_nil)))) pa_nil))), ?_⟩
    refine ⟨_, rfl, c, rfl, ⟨_, SqL.of hc⟩, fun D hD0 => ?_⟩
    have pD : p ≠ D := ne_of_none hP.p hD0
    have qD : q ≠ D := ne_of_none hP.q hD0
    have la : acc.length = ks.length := keys_len al
    have few := gk.few
    refine lc_list (xs := acc) (fun j H' => ∃ (ps : List Addr) (kbs : List (List Key × Addr × V)) (r : TRow) (sj gj : Int), H' D = some (.lst (ps.map V.ref)) ∧ KPH H' ps kbs ∧ kbs.map (fun x => (x.1, x.2.2)) = tents r ∧ (r.map (·.1)).Sublist (ks.take j) ∧ (∀ t ∈ r, 0 ≤ t.2 ∧ t.2 ≤ 10 ^ 29) ∧ s ≤ sj ∧ sj ≤ s + 3 * (j : Int) ∧ Pen H' p q ns sj gj ∧ But p H H') ?_ ?_ ?_ ?_
    · exact ⟨[], [], [], s, g, upd_same, .nil, rfl, List.nil_sublist _, (fun t ht => by cases ht), by omega, by omega, ⟨by rw [upd_ne pD]; exact hP.p, by rw [upd_ne qD]; exact hP.q⟩, fun b o hb _ => by rw [upd_ne (ne_of_none hb hD0)]; exact hb⟩
    · rintro j H' _ ⟨ps, kbs, r, sj, gj, i1, i2, i3, i4, i5, i6, i7, hP', bt⟩
      exact SqL.of (bt _ _ hc cp)
    · rintro j x H' hj ⟨ps, kbs, r, sj, gj, i1, i2, i3, i4, i5, i6, i7, hP', bt⟩
      obtain ⟨bb, ky, hk, rfl, hb⟩ := keys_get (keys_but2 hP.p bt al) hj
      have jl : j < ks.length := (List.getElem?_eq_some_iff.mp hk).1
      have tk : ks.take (j + 1) = ks.take j ++ [ky] := by
        rw [List.take_add_one, hk]
        rfl
      have lr : r.length ≤ 9 := by
        have := i4.length_le
        rw [List.length_map, List.length_take] at this
        omega
      have lp : ps.length = r.length := by
        have e1 := Paired.length i2
        have e2 := congrArg List.length i3
        unfold tents at e2
        rw [List.length_map, List.length_map] at e2
        omega
      refine ⟨rfl, ?_⟩
      refine ⟨_, rfl, p, q, ns, sj, gj, 3, rfl, hP', hl, by omega, by omega, by decide, by decide, fun m s2 g2 H2 m0 m1 a0 a1 hP2 hB2 => ?_⟩
      refine ⟨m, 0, rfl, rfl, _, rfl, ?_⟩
      by_cases c0 : 0 < m
      · rw [decide_eq_true c0]
        refine ⟨_, rfl, _, rfl, p, q, ns, s2, g2, rfl, hP2, hl, by omega, by omega, fun i s3 g3 H3 j0 j1 b0 b1 hP3 hB3 => ?_⟩
        refine ⟨by show 2 ≤ sizeLine; decide, fun t nt => ?_⟩
        have up : ∀ b o, H' b = some o → b ≠ p → upd H3 t (.tup [.ref bb, .int i]) b = some o := fun b o h ne => Ex.new nt _ _ (hB3 _ _ (hB2 _ _ h ne) ne)
        have ts : upd H3 t (.tup [.ref bb, .int i]) t = some (.tup [.ref bb, .int i]) := upd_same
        have hP4 : Pen (upd H3 t (.tup [.ref bb, .int i])) p q ns s3 g3 := ⟨Ex.new nt _ _ hP3.p, Ex.new nt _ _ hP3.q⟩
        generalize upd H3 t (.tup [.ref bb, .int i]) = H4 at up ts hP4 ⊢
        have hD4 := up _ _ i1 pD.symm
        have low : ∀ b ys, H4 b = some (.tup ys) → upd H4 D (.lst (ps.map V.ref ++ [.ref t])) b = some (.tup ys) := fun b ys h => by
          rw [upd_ne (ne_of h hD4 fun z => nomatch z)]
          exact h
        have upT : ∀ b ys, H' b = some (.tup ys) → H4 b = some (.tup ys) := fun b ys h => up _ _ h (ne_of h hP'.p fun z => nomatch z)
        refine ⟨_, hD4, by rw [List.length_map, sizeLine_eq]; omega, ps ++ [t], kbs ++ [(ky, bb, .int i)], r ++ [(ky, i)], s3, g3, by rw [upd_same, List.map_append]; rfl, ?_, ?_, ?_, ?_, by omega, by push_cast; omega, ⟨by rw [upd_ne pD]; exact hP4.p, by rw [upd_ne qD]; exact hP4.q⟩, fun b o hb ne => by rw [upd_ne (ne_of_none hb hD0)]; exact up _ _ (bt _ _ hb ne) ne⟩
        · exact KPH.snoc (i2.mono fun b ys h => low _ _ (upT _ _ h)) (low _ _ ts) (low _ _ (upT _ _ hb))
        · rw [List.map_append, i3]
          unfold tents
          rw [List.map_append]
          rfl
        · rw [List.map_append, tk]
          exact i4.append (List.Sublist.refl _)
        · intro u hu
          rcases List.mem_append.mp hu with hu | hu
          · exact i5 u hu
          · rw [List.mem_singleton.mp hu]
            exact ⟨j0, j1⟩
      · rw [decide_eq_false c0]
        refine ⟨ps, kbs, r, s2, g2, hB2 _ _ i1 pD.symm, i2.mono fun b ys h => hB2 _ _ h (ne_of h hP'.p fun z => nomatch z), i3, ?_, i5, by omega, by push_cast; omega, hP2, fun b o hb ne => hB2 _ _ (bt _ _ hb ne) ne⟩
        rw [tk]
        exact i4.trans (List.sublist_append_left _ _)
    · rintro H' ⟨ps, kbs, r, sj, gj, i1, i2, i3, i4, i5, i6, i7, hP', bt⟩
      rw [la, List.take_length] at i4
      have nk : (r.map (·.1)).Nodup := gk.nod.sublist i4
      have ek : kbs.map (·.1) = r.map (·.1) := by
        have := congrArg (List.map Prod.fst) i3
        unfold tents at this
        rw [List.map_map, List.map_map] at this
        exact this
      refine ⟨D, ps, kbs, rfl, SqL.of i1, Paired.mapP i2 fun _ _ z => ⟨SqT.of z.1, z.2⟩, by rw [ek]; exact nk, fun d nd => ?_⟩
      rw [i3]
      have en := Ex.new (o := .dT (tents r)) nd
      have dp : d ≠ p := (ne_of_none hP'.p nd).symm
      refine k d r sj gj _ ⟨nk, fun t ht => gk.key _ (i4.subset (List.mem_map_of_mem ht)), fun t ht => (i5 t ht).1, fun t ht => (i5 t ht).2, ?_⟩ upd_same dp i6 (by omega) ⟨en _ _ hP'.p, en _ _ hP'.q⟩ fun b o hb ne => en _ _ (bt _ _ hb ne)
      have := i4.length_le
      rw [List.length_map] at this
      omega
end
end Fi

set_option Elab.async false
set_option linter.all false
set_option maxRecDepth 100000
set_option maxHeartbeats 4000000
set_option autoImplicit false
/-! _law_wrong. -/
namespace Fi
open PySem PySem.NumText PySem.Spec PyProof.Rows L2 EvP Cm Fk DtE Tb XG Wd
open Dg hiding numT
/-- a line as the law bends it -/
structure LnF (z : Str) : Prop extends TxF z where
  asc : ∀ c ∈ tl z, c < 128
def wrongFV (z : Str) : V := match wrongF (ws z) with
  | some k => .int (k : Nat)
  | none => .non
theorem wrongFV_some {z : Str} {k : Nat} (h : wrongF (ws z) = some k) : wrongFV z = .int (k : Nat) := by
  unfold wrongFV
  rw [h]
theorem wrongFV_none {z : Str} (h : wrongF (ws z) = none) : wrongFV z = .non := by
  unfold wrongFV
  rw [h]
theorem name_ne {x : Str} (h : nameB x = true) : decide (tl ("" : Str) < tl x) = true := by
  refine decide_eq_true ?_
  show ([] : List Nat) < tl x
  cases e : tl x with
  | nil =>
    have : x = "" := tl_eq e
    rw [this] at h
    revert h
    decide +kernel
  | cons a l => exact List.Lex.nil
theorem not_lt_e (x : Str) : decide (tl x < tl ("" : Str)) = false := decide_eq_false (List.not_lt_nil _)
theorem ok0 (o x : Str) : okG o "" x = (nameB x && !decide (tl x < tl o)) := by
  unfold okG
  cases h : nameB x with
  | false => rfl
  | true => rw [name_ne h, Bool.and_true]
theorem ok1 (t x : Str) : okG "" t x = (nameB x && decide (tl t < tl x)) := by
  unfold okG
  rw [not_lt_e, Bool.not_false, Bool.and_true]
abbrev sFWrong : Stmt := top 52
def spFWrong : Sp := fun vs H Q _ => ∃ z : Str, vs = [.str z] ∧ LnF z ∧ ∀ H', Ex H H' → Q (wrongFV z) H'
def NFW : List Str := ["line", "words", "one", "two", "spot", "way", "word"]
theorem scFWrong : FnScope NFW ["line"] (defScope sFWrong) := ⟨rfl, rfl, rfl, by decide +kernel, rfl, by decide +kernel, by decide +kernel⟩
section
variable {P : Program} {w : World} {K : PySem.W.Frag} {mg : Str → Option Value} {base : Heap} {f fN fA : Addr} {fd fdN fdA : FuncData}
theorem ok_fwrong (F : Fun K "_law_wrong" "_law_wrong" sFWrong f fd) (T : Fk.Blt mg) (hR : mg "range" = none) (GN : FnOk P w K mg base CX0 1 fN fdN ["word"] spLName) (bN : Binds K fdN ["word"] []) (gN : mg "_law_is_name" = some (.ref fN)) (kN : PySem.W.keepIn K (.ref fN) = true)
    (GA : FnOk P w K mg base CX0 1 fA fdA ["word"] spLAmt) (bA : Binds K fdA ["word"] []) (gA : mg "_law_is_amount" = some (.ref fA)) (kA : PySem.W.keepIn K (.ref fA) = true) : FnOk P w K mg base CX0 2 f fd ["line"] spFWrong := by
  have nd := scFWrong.nd
  refine F.ok scFWrong (fun vs H Q E h => ?_) (fun cdv A outer s H vs Q E hr h => ?_)
  · obtain ⟨z, rfl, _⟩ := h
    rfl
  · obtain ⟨z, rfl, hz, q⟩ := h
    refine ⟨_, pss_cons (ps_par3 (i := 1) (j := 2) (l := 3) (by rfl) nd rfl rfl rfl (by decide) (by decide) (by decide) rfl rfl rfl (pa_cons (pe_split (pv 0) pe_str) (pa_cons pe_str (pa_cons pe_str pa_nil))) (by rfl))
      (pss_cons (ps_if (pt_cmpR op_eq (pe_ix ix_list (pv 1) pe_int (fun _ _ => rfl)) pe_str (nomark _)) (pss_one (ps_ret (pe_ifExp (pt_cmpR op_gt (pe_callB call_len_seq (by rfl) T.len PySem.boot_len (pa_cons (pv 1) pa_nil)) pe_int (nomark _)) pe_int pe_non))) pss_nil)
      (pss_cons (ps_for PassesOwn.never rfl (pi_range1 rfl hR (pa_cons (pe_callB call_len_seq (by rfl) T.len PySem.boot_len (pa_cons (pv 1) pa_nil)) pa_nil)) (pg_name (i := 4) nd rfl (Or.inl rfl))
        (pss_cons (ps_par (i := 5) (j := 6) (by rfl) nd rfl rfl (by decide) rfl rfl (pa_cons (pe_op op_modN (pe_callTy call_int1 (by rfl) T.int (by decide +kernel) (pa_cons (pv 4) pa_nil)) pe_int) (pa_cons (pe_ix ix_list (pv 1) (pv 4) (fun _ _ => rfl)) pa_nil)) (by rfl))
        (pss_one (ps_if (pt_cmpR op_eq (pv 5) pe_int (nomark _))
          (pss_cons (ps_if (PW.pt (pw_or (pt_not (pt_val (pe_call GN hr (by rfl) gN kN bN .nil pass0 (pa_cons (pv 6) pa_nil)))) (pw_or1 (pt_cmpR op_lt_str (pv 6) (pv 2) (nomark _))))) (pss_one (ps_ret (pv 4))) pss_nil)
            (pss_cons (ps_set (i := 3) nd rfl (Or.inl rfl) (pe_ifExp (pt_cmpR op_eq (pv 6) (pv 2) (nomark _)) (pv 3) pe_str)) (pss_one (ps_set (i := 2) nd rfl (Or.inl rfl) (pv 6)))))
          (pss_one (ps_if (pt_cmpR op_eq (pv 5) pe_int (nomark _))
            (pss_cons (ps_if (PW.pt (pw_or (pt_not (pt_val (pe_call GN hr (by rfl) gN kN bN .nil pass0 (pa_cons (pv 6) pa_nil)))) (pw_or1 (pt_cmpR op_le_str (pv 6) (pv 3) (nomark _))))) (pss_one (ps_ret (pv 4))) pss_nil)
              (pss_one (ps_set (i := 3) nd rfl (Or.inl rfl) (pv 6))))
            (pss_one (ps_if (PW.pt (pw_or (PW.pt (pw_and (pt_cmpR op_eq (pv 5) pe_int (nomark _)) (pw_and1 (pt_not (pt_val (pe_call GA hr (by rfl) gA kA bA .nil pass0 (pa_cons (pv 6) pa_nil))))))) (pw_or1 (PW.pt (pw_and (pt_cmpR op_eq (pv 5) pe_int (nomark _)) (pw_and1 (pt_cmpR op_ne (pv 6) pe_str (nomark _)))))))) (pss_one (ps_ret (pv 4))) pss_nil))))))))
      (pss_one (ps_ret (pe_ifExp (pt_cmpR op_ne (pe_op op_modN (pe_callTy call_int1 (by rfl) T.int (by decide +kernel) (pa_cons (pe_callB call_len_seq (by rfl) T.len PySem.boot_len (pa_cons (pv 1) pa_nil)) pa_nil)) pe_int) pe_int (nomark _)) (pe_callB call_len_seq (by rfl) T.len PySem.boot_len (pa_cons (pv 1) pa_nil)) pe_non))))), ?_⟩
    refine ⟨_, rfl, ⟨_, rfl⟩, z, " ", rfl, rfl, rfl, by rw [sizeLine_eq]; have := hz.len; omega, fun l hl => ?_⟩
    refine ⟨_, _, _, rfl, ?_⟩
    have e1 := Ex.new (o := .lst ((ws z).map V.str)) hl
    have hW : upd H l (.lst ((ws z).map V.str)) l = some (.lst ((ws z).map V.str)) := upd_same
    generalize upd H l (.lst ((ws z).map V.str)) = H1 at e1 hW ⊢
    have lw : 0 < (ws z).length := List.length_pos_iff.mpr (ws_ne z)
    have few := hz.few
    have wl : ∀ x ∈ ws z, x.length ≤ 9000 ∧ ∀ c ∈ tl x, c < 128 := fun x hx => ⟨Nat.le_trans (ws_mem hx).2.1 hz.len, fun c hc => hz.asc c ((ws_mem hx).2.2 c hc)⟩
    have item : ∀ (i : Nat) (hi : i < (ws z).length), atI ((ws z).map V.str) (i : Nat) = some (.str (ws z)[i]) := fun i hi => at_of (j := i) rfl (by rw [List.getElem?_map, List.getElem?_eq_getElem hi]; rfl)
    have len : (((ws z).map V.str).length : Nat) = (ws z).length := List.length_map ..
    refine ⟨_, rfl, l, _, 0, _, rfl, rfl, SqL.of hW, item 0 lw, rfl, _, rfl, ?_⟩
    have hd : (ws z).head? = some (ws z)[0] := by rw [List.head?_eq_getElem?, List.getElem?_eq_getElem lw]
    by_cases dash : (ws z)[0] = "-"
    · rw [decide_eq_true (by rw [dash])]
      have wv : wrongF (ws z) = if 1 < (ws z).length then some 1 else none := by
        unfold wrongF
        rw [hd, dash, if_pos rfl]
      refine ⟨_, rfl, l, _, rfl, .inl (SqL.of hW), _, _, rfl, rfl, _, rfl, ?_⟩
      rw [len]
      by_cases c1 : 1 < (ws z).length
      · rw [decide_eq_true (show (1 : Int) < ((ws z).length : Nat) by omega)]
        rw [if_pos c1] at wv
        rw [wrongFV_some wv] at q
        exact q _ e1
      · rw [decide_eq_false (show ¬ (1 : Int) < ((ws z).length : Nat) by omega)]
        rw [if_neg c1] at wv
        rw [wrongFV_none wv] at q
        exact q _ e1
    · rw [decide_eq_false (fun y => dash (V.str.inj y))]
      have wv : wrongF (ws z) = wrF "" "" 0 (ws z) := by
        unfold wrongF
        rw [hd, if_neg (fun y => dash (Option.some.inj y))]
      have fin : ∀ k H', Ex H1 H' → wrF "" "" 0 (ws z) = some k → Q (.int (k : Nat)) H' := fun k H' e h => by
        rw [wrongFV_some (wv.trans h)] at q
        exact q _ (e1.trans e)
      have fin0 : ∀ H', Ex H1 H' → wrF "" "" 0 (ws z) = none → Q .non H' := fun H' e h => by
        rw [wrongFV_none (wv.trans h)] at q
        exact q _ (e1.trans e)
      have fm : ∀ i : Nat, Int.fmod ((i : Nat) : Int) 4 = ((i % 4 : Nat) : Int) := fun i => by
        rw [Int.fmod_eq_emod_of_nonneg _ (by decide)]
        rfl
      refine ⟨_, rfl, l, _, rfl, .inl (SqL.of hW), (ws z).length, by rw [len], by omega, by omega, for_range (lo := 0) (n := (ws z).length) (fun i σ H' => Ex H1 H' ∧ ∃ (one two : Str) (o1 o2 o3 : Option V), σ = [some (.str z), some (.ref l), some (.str one), some (.str two), o1, o2, o3] ∧ wrF "" "" 0 (ws z) = wrF one two i ((ws z).drop i)) ⟨Ex.refl _, "", "", _, _, _, rfl, rfl⟩ (fun i σ H' hi h => ?_) (fun σ H' h => ?_)⟩
      · obtain ⟨e, one, two, o1, o2, o3, rfl, wa⟩ := h
        have hW' := e _ _ hW
        have it := item i hi
        obtain ⟨x1, x2⟩ := wl _ (List.getElem_mem hi)
        have ei : (ws z)[i]? = some (ws z)[i] := List.getElem?_eq_getElem hi
        have i0 : (0 : Int) + (i : Nat) = (i : Nat) := by omega
        rw [i0]
        have dd : ∀ c : Nat, decide (V.int (Int.fmod ((i : Nat) : Int) 4) = V.int (c : Nat)) = decide (i % 4 = c) := fun c => by
          rw [decide_eq_decide, fm]
          exact ⟨fun y => by have := V.int.inj y; omega, fun y => by rw [y]⟩
        refine ⟨_, rfl, .inl ⟨_, rfl, _, _, rfl, rfl, (show (4 : Int) ≠ 0 by decide), _, rfl, _, rfl, l, _, _, _, rfl, rfl, SqL.of hW', it, ?_⟩⟩
        refine ⟨_, _, rfl, ?_⟩
        refine ⟨_, rfl, rfl, _, rfl, ?_⟩
        dsimp only
        rw [show decide (V.int (Int.fmod ((i : Nat) : Int) 4) = V.int 0) = decide (i % 4 = 0) from dd 0]
        by_cases c0 : i % 4 = 0
        · rw [decide_eq_true c0]
          have st := st0 (o := one) (t := two) (x := (ws z)[i]) c0
          rw [ok0] at st
          refine ⟨_, rfl, _, rfl, x1, x2, fun H2 e2 => ⟨_, rfl, ?_⟩⟩
          cases hn : nameB (ws z)[i] with
          | false =>
            rw [hn, Bool.false_and, if_neg Bool.false_ne_true] at st
            exact ⟨_, rfl, fin i _ (e.trans e2) (wa.trans (wrF_bad ei st))⟩
          | true =>
            refine ⟨_, rfl, _, rfl, _, _, rfl, rfl, _, rfl, ?_⟩
            rw [hn, Bool.true_and] at st
            cases hp : decide ((ws z)[i].cps.toList < one.cps.toList) with
            | true =>
              rw [show decide (tl (ws z)[i] < tl one) = true from hp, if_neg (by decide)] at st
              exact ⟨_, rfl, fin i _ (e.trans e2) (wa.trans (wrF_bad ei st))⟩
            | false =>
              rw [show decide (tl (ws z)[i] < tl one) = false from hp, if_pos (by decide)] at st
              have nx := wa.trans (wrF_some ei st)
              refine ⟨_, rfl, _, rfl, rfl, _, rfl, ?_⟩
              by_cases eq : (ws z)[i] = one
              · rw [decide_eq_true (by rw [eq])]
                rw [if_pos eq] at nx
                exact ⟨_, rfl, _, rfl, e.trans e2, _, _, _, _, _, rfl, nx⟩
              · rw [decide_eq_false (fun y => eq (V.str.inj y))]
                rw [if_neg eq] at nx
                exact ⟨_, rfl, e.trans e2, _, _, _, _, _, rfl, nx⟩
        · rw [decide_eq_false c0]
          refine ⟨_, rfl, rfl, _, rfl, ?_⟩
          dsimp only
          rw [show decide (V.int (Int.fmod ((i : Nat) : Int) 4) = V.int 1) = decide (i % 4 = 1) from dd 1]
          by_cases c1 : i % 4 = 1
          · rw [decide_eq_true c1]
            have st := st1 (o := one) (t := two) (x := (ws z)[i]) c1
            rw [ok1] at st
            refine ⟨_, rfl, _, rfl, x1, x2, fun H2 e2 => ⟨_, rfl, ?_⟩⟩
            cases hn : nameB (ws z)[i] with
            | false =>
              rw [hn, Bool.false_and, if_neg Bool.false_ne_true] at st
              exact ⟨_, rfl, fin i _ (e.trans e2) (wa.trans (wrF_bad ei st))⟩
            | true =>
              refine ⟨_, rfl, _, rfl, _, _, rfl, rfl, _, rfl, ?_⟩
              rw [hn, Bool.true_and] at st
              cases hp : decide (two.cps.toList < (ws z)[i].cps.toList) with
              | false =>
                rw [show decide (tl two < tl (ws z)[i]) = false from hp, if_neg (by decide)] at st
                exact ⟨_, rfl, fin i _ (e.trans e2) (wa.trans (wrF_bad ei st))⟩
              | true =>
                rw [show decide (tl two < tl (ws z)[i]) = true from hp, if_pos rfl] at st
                exact ⟨_, rfl, e.trans e2, _, _, _, _, _, rfl, wa.trans (wrF_some ei st)⟩
          · rw [decide_eq_false c1]
            refine ⟨_, rfl, rfl, _, rfl, ?_⟩
            dsimp only
            rw [show decide (V.int (Int.fmod ((i : Nat) : Int) 4) = V.int 2) = decide (i % 4 = 2) from dd 2]
            by_cases c2 : i % 4 = 2
            · rw [decide_eq_true c2]
              have st := st2 (o := one) (t := two) (x := (ws z)[i]) c2
              refine ⟨_, rfl, _, rfl, x1, x2, fun H2 e2 => ⟨_, rfl, ?_⟩⟩
              cases ha : amtB (ws z)[i] with
              | false =>
                rw [ha, if_neg Bool.false_ne_true] at st
                exact ⟨_, rfl, fin i _ (e.trans e2) (wa.trans (wrF_bad ei st))⟩
              | true =>
                rw [ha, if_pos rfl] at st
                refine ⟨_, rfl, rfl, _, rfl, ?_⟩
                rw [show decide (V.int (Int.fmod ((i : Nat) : Int) 4) = V.int 3) = decide (i % 4 = 3) from dd 3, decide_eq_false (by omega)]
                exact ⟨e.trans e2, _, _, _, _, _, rfl, wa.trans (wrF_some ei st)⟩
            · rw [decide_eq_false c2]
              have c3 : i % 4 = 3 := by omega
              have st := st3 (o := one) (t := two) (x := (ws z)[i]) c3
              refine ⟨_, rfl, rfl, _, rfl, ?_⟩
              rw [show decide (V.int (Int.fmod ((i : Nat) : Int) 4) = V.int 3) = decide (i % 4 = 3) from dd 3, decide_eq_true c3]
              refine ⟨_, rfl, rfl, _, rfl, ?_⟩
              by_cases sc : (ws z)[i] = ";"
              · rw [decide_eq_true (by rw [sc])]
                rw [if_pos sc] at st
                exact ⟨e, _, _, _, _, _, rfl, wa.trans (wrF_some ei st)⟩
              · rw [decide_eq_false (fun y => sc (V.str.inj y))]
                rw [if_neg sc] at st
                exact ⟨_, rfl, fin i _ e (wa.trans (wrF_bad ei st))⟩
      · obtain ⟨e, one, two, o1, o2, o3, rfl, wa⟩ := h
        have hW' := e _ _ hW
        rw [List.drop_length] at wa
        have wa : wrF "" "" 0 (ws z) = if (ws z).length % 4 = 3 then none else some (ws z).length := wa
        refine ⟨_, rfl, l, _, rfl, .inl (SqL.of hW'), .inl ⟨_, rfl, _, _, rfl, rfl, (show (4 : Int) ≠ 0 by decide), rfl, _, rfl, ?_⟩⟩
        have dd : decide (V.int (Int.fmod ((((ws z).map V.str).length : Nat) : Int) 4) = V.int 3) = decide ((ws z).length % 4 = 3) := by
          rw [decide_eq_decide, len, fm]
          exact ⟨fun y => by have := V.int.inj y; omega, fun y => by rw [y]; rfl⟩
        dsimp only
        rw [dd]
        by_cases ev : (ws z).length % 4 = 3
        · rw [decide_eq_true ev]
          rw [if_pos ev] at wa
          exact fin0 _ e wa
        · rw [decide_eq_false ev]
          rw [if_neg ev] at wa
          refine ⟨_, rfl, l, _, rfl, .inl (SqL.of hW'), ?_⟩
          rw [len]
          exact fin _ _ e wa
end
end Fi

set_option Elab.async false
set_option linter.all false
set_option maxRecDepth 100000
set_option maxHeartbeats 2000000
/-! The order of the pairs: by the two names, one behind the other. -/
namespace Fi
open PySem PySem.NumText PySem.Spec PyProof.Rows L2 EvP Cm Fk DtE Tb XG Wd
open Dg hiding numT
/-- texts with a low sign between their parts -/
theorem cmp_sep {s : Nat} : ∀ {A B R S : List Nat}, (∀ c ∈ A, s < c) → (∀ c ∈ B, s < c) → (A ++ s :: R < B ++ s :: S ↔ A < B ∨ (A = B ∧ R < S))
  | [], [], R, S, _, _ => by
    rw [List.nil_append, List.nil_append, List.cons_lt_cons_iff]
    constructor
    · rintro (h | ⟨_, h⟩)
      · exact absurd h (Nat.lt_irrefl _)
      · exact .inr ⟨rfl, h⟩
    · rintro (h | ⟨_, h⟩)
      · exact absurd h (List.lt_irrefl _)
      · exact .inr ⟨rfl, h⟩
  | [], b :: B, R, S, _, hB => by
    rw [List.nil_append, List.cons_append, List.cons_lt_cons_iff]
    exact ⟨fun _ => .inl (List.nil_lt_cons _ _), fun _ => .inl (hB b (.head _))⟩
  | a :: A, [], R, S, hA, _ => by
    rw [List.nil_append, List.cons_append, List.cons_lt_cons_iff]
    have := hA a (.head _)
    constructor
    · rintro (h | ⟨h, _⟩)
      · exact absurd h (by omega)
      · exact absurd h (by omega)
    · rintro (h | ⟨h, _⟩)
      · exact absurd h (List.not_lt_nil _)
      · cases h
  | a :: A, b :: B, R, S, hA, hB => by
    rw [List.cons_append, List.cons_append, List.cons_lt_cons_iff, List.cons_lt_cons_iff, cmp_sep (fun c hc => hA c (.tail _ hc)) (fun c hc => hB c (.tail _ hc))]
    constructor
    · rintro (h | ⟨e, h | ⟨e2, h⟩⟩)
      · exact .inl (.inl h)
      · exact .inl (.inr ⟨e, h⟩)
      · exact .inr ⟨by rw [e, e2], h⟩
    · rintro ((h | ⟨e, h⟩) | ⟨e, h⟩)
      · exact .inl h
      · exact .inr ⟨e, .inl h⟩
      · exact .inr ⟨(List.cons.inj e).1, .inr ⟨(List.cons.inj e).2, h⟩⟩
/-- the pair (a, x) stands before (b, y) -/
def ltP (a x b y : Str) : Prop := tl a < tl b ∨ (tl a = tl b ∧ tl x < tl y)
theorem cmp_pair {s : Nat} {a x b y : Str} {e : List Nat} (ha : ∀ c ∈ tl a, s < c) (hb : ∀ c ∈ tl b, s < c) (R : tl x ++ e < tl y ++ e ↔ tl x < tl y) {m : List Nat} : (tl a ++ s :: (m ++ (tl x ++ e)) < tl b ++ s :: (m ++ (tl y ++ e)) ↔ ltP a x b y) := by
  rw [cmp_sep ha hb]
  have k : ∀ m : List Nat, (m ++ (tl x ++ e) < m ++ (tl y ++ e) ↔ tl x < tl y) := fun m => by
    induction m with
    | nil => exact R
    | cons c m ih =>
      rw [List.cons_append, List.cons_append, List.cons_lt_cons_iff, ih]
      constructor
      · rintro (h | ⟨_, h⟩)
        · exact absurd h (Nat.lt_irrefl _)
        · exact h
      · exact fun h => .inr ⟨rfl, h⟩
  rw [k]
  exact Iff.rfl
/-- the end behind the second name: nothing, or a low sign -/
theorem end_nil {x y : Str} : tl x ++ [] < tl y ++ [] ↔ tl x < tl y := by rw [List.append_nil, List.append_nil]
theorem end_low {s : Nat} {e : List Nat} {x y : Str} (hx : ∀ c ∈ tl x, s < c) (hy : ∀ c ∈ tl y, s < c) : tl x ++ s :: e < tl y ++ s :: e ↔ tl x < tl y := by
  rw [cmp_sep hx hy]
  exact ⟨fun h => h.elim id fun z => absurd z.2 (List.lt_irrefl _), .inl⟩
end Fi

set_option Elab.async false
set_option linter.all false
set_option maxRecDepth 100000
set_option maxHeartbeats 2000000
/-! The texts of pairs of names. -/
namespace Fi
open PySem PySem.NumText PySem.Spec PyProof.Rows L2 EvP Cm Fk DtE Tb XG Wd
open Dg hiding numT
theorem name_low {x : Str} (h : nameB x = true) : ∀ c ∈ tl x, 97 ≤ c ∧ c ≤ 122 := by
  have h' := h
  unfold nameB at h'
  simp only [Bool.and_eq_true, decide_eq_true_eq, Bool.not_eq_true'] at h'
  have l8 : x.length ≤ 8 := name_len h
  have l1 : 1 ≤ x.length := by
    have := of_decide_eq_true (name_ne h)
    rw [← len_cps]
    cases e : x.cps.toList with
    | nil =>
      rw [show tl x = [] from e] at this
      exact absurd this (List.lt_irrefl _)
    | cons a l => simp
  have z := name_az x l1 l8 h'.1.1.1.2
  rw [h, List.all_eq_true] at z
  have k : ∀ c ∈ tl az, 97 ≤ c ∧ c ≤ 122 := by decide +kernel
  exact fun c hc => k c (of_decide_eq_true (z c hc))
theorem fold_plain {q : Nat} : ∀ (l : List Nat) (acc : Array Nat), (∀ c ∈ l, Builtin.Str.reprChar q c = [c]) → (l.foldl (fun out c => out ++ (Builtin.Str.reprChar q c).toArray) acc).toList = acc.toList ++ l
  | [], acc, _ => by simp
  | c :: l, acc, h => by
    rw [List.foldl_cons, fold_plain l _ fun d hd => h d (.tail _ hd), h c (.head _)]
    simp
theorem repr_name {x : Str} (h : nameB x = true) : tl (reprText x) = 39 :: (tl x ++ [39]) := by
  have lo := name_low h
  have no : x.cps.contains 39 = false := by
    rw [← Array.contains_toList]
    cases e : x.cps.toList.contains 39 with
    | false => rfl
    | true =>
      have := lo 39 (List.contains_iff_mem.mp e)
      omega
  have q : reprQuote x = 39 := by
    unfold reprQuote
    rw [no]
    rfl
  have rc : ∀ c, c < 123 → 97 ≤ c → Builtin.Str.reprChar 39 c = [c] := by decide +kernel
  unfold reprText
  show ((x.cps.foldl (fun out c => out ++ (Builtin.Str.reprChar (reprQuote x) c).toArray) #[reprQuote x]).push (reprQuote x)).toList = _
  rw [q, Array.toList_push, ← Array.foldl_toList, fold_plain _ _ fun c hc => rc c (by have := lo c hc; omega) (lo c hc).1]
  rfl
end Fi

set_option Elab.async false
set_option linter.all false
set_option maxRecDepth 100000
set_option maxHeartbeats 2000000
/-! Pairs sorted by their texts, by (a, x) and by "a x": all the same. -/
namespace Fi
open PySem PySem.NumText PySem.Spec PyProof.Rows L2 EvP Cm Fk DtE Tb XG Wd
open Dg hiding numT
theorem tl_app (u v : Str) : tl (u ++ v) = tl u ++ tl v := by
  show (u.cps ++ v.cps).toList = _
  rw [Array.toList_append]
theorem textK_tl {a x : Str} (ha : nameB a = true) (hx : nameB x = true) : tl (textK (key2 a x)) = 40 :: 39 :: (tl a ++ 39 :: ([44, 32, 39] ++ (tl x ++ 39 :: [41]))) := by
  show tl (("(" : Str) ++ (reprText a ++ ", " ++ reprText x) ++ ((")" : String) : Str)) = _
  rw [tl_app, tl_app, tl_app, tl_app, repr_name ha, repr_name hx]
  show [40] ++ (39 :: (tl a ++ [39]) ++ [44, 32] ++ 39 :: (tl x ++ [39])) ++ [41] = _
  simp
/-- a pair's two names with a blank between -/
def textP (k : List Key) : Str := nmK 0 k ++ " " ++ nmK 1 k
theorem textP_tl (a x : Str) : tl (textP (key2 a x)) = tl a ++ 32 :: ([] ++ (tl x ++ [])) := by
  show tl (a ++ " " ++ x) = _
  rw [tl_app, tl_app, List.append_nil, List.append_assoc]
  rfl
theorem lt_textK {a x b y : Str} (ha : nameB a = true) (hx : nameB x = true) (hb : nameB b = true) (hy : nameB y = true) : tl (textK (key2 a x)) < tl (textK (key2 b y)) ↔ ltP a x b y := by
  have low : ∀ {z : Str}, nameB z = true → ∀ c ∈ tl z, 39 < c := fun h c hc => by have := name_low h c hc; omega
  rw [textK_tl ha hx, textK_tl hb hy, List.cons_lt_cons_iff, List.cons_lt_cons_iff]
  have k := cmp_pair (s := 39) (m := [44, 32, 39]) (low ha) (low hb) (end_low (s := 39) (e := [41]) (low hx) (low hy))
  rw [k]
  exact ⟨fun h => h.elim (fun z => absurd z (Nat.lt_irrefl _)) fun z => z.2.elim (fun z => absurd z (Nat.lt_irrefl _)) fun z => z.2, fun h => .inr ⟨rfl, .inr ⟨rfl, h⟩⟩⟩
theorem lt_textP {a x b y : Str} (ha : nameB a = true) (hb : nameB b = true) : tl (textP (key2 a x)) < tl (textP (key2 b y)) ↔ ltP a x b y := by
  have low : ∀ {z : Str}, nameB z = true → ∀ c ∈ tl z, 32 < c := fun h c hc => by have := name_low h c hc; omega
  rw [textP_tl, textP_tl]
  exact cmp_pair (s := 32) (m := []) (low ha) (low hb) end_nil
theorem name_of {k : List Key} (h : PairK k) : ∃ a x, k = key2 a x ∧ nameB a = true ∧ nameB x = true := by
  obtain ⟨a, x, e, ⟨z, ez, _, ha⟩, ⟨y, ey, _, hx⟩⟩ := h
  cases ez
  cases ey
  exact ⟨a, x, e, ha, hx⟩
/-- sorted by their texts as sorted by "a x" -/
theorem sort_texts {ks : List (List Key)} (h : ∀ k ∈ ks, PairK k) : (sortK ks).map textP = srt (ks.map textP) := by
  unfold sortK srt
  refine PySem.W.sort_maps textP fun k hk l hl => ?_
  obtain ⟨a, x, rfl, ha, hx⟩ := name_of (h k hk)
  obtain ⟨b, y, rfl, hb, hy⟩ := name_of (h l hl)
  unfold leK
  rw [PySem.W.dataLe_str, decide_eq_decide]
  show tl (textK (key2 a x)) ≤ tl (textK (key2 b y)) ↔ tl (textP (key2 a x)) ≤ tl (textP (key2 b y))
  rw [← List.not_lt, ← List.not_lt, lt_textK hb hy ha hx, lt_textP hb ha]
/-- so the pairs rise -/
theorem sort_up {ks : List (List Key)} (h : ∀ k ∈ ks, PairK k) : (sortK ks).Pairwise fun k l => ∃ a x b y, k = key2 a x ∧ l = key2 b y ∧ ¬ ltP b y a x := by
  have p := srt_pairwise (ks.map textP)
  rw [← sort_texts h, List.pairwise_map] at p
  refine List.Pairwise.imp_of_mem (fun {k l} hk hl z => ?_) p
  obtain ⟨a, x, rfl, ha, hx⟩ := name_of (h k ((sortK_perm ks).mem_iff.mp hk))
  obtain ⟨b, y, rfl, hb, hy⟩ := name_of (h l ((sortK_perm ks).mem_iff.mp hl))
  refine ⟨a, x, b, y, rfl, rfl, fun lt => ?_⟩
  have z2 : tl (textP (key2 a x)) ≤ tl (textP (key2 b y)) := z
  exact List.not_lt.mpr z2 ((lt_textP hb ha).mpr lt)
end Fi

set_option Elab.async false
set_option linter.all false
set_option maxRecDepth 100000
set_option maxHeartbeats 2000000
/-! The words of a filling's text. -/
namespace Fi
open PySem PySem.NumText PySem.Spec PyProof.Rows L2 EvP Cm Fk DtE Tb XG Wd
open Dg hiding numT
/-- with a sign before what is left -/
def semi (l : List Str) : List Str := if l.isEmpty = true then [] else ";" :: l
/-- the amounts, as words -/
def wordsF : TRow → List Str
  | [] => []
  | t :: r => nmK 0 t.1 :: nmK 1 t.1 :: Fk.numT t.2 :: semi (wordsF r)
theorem wrF_go {o t x : Str} {i : Nat} {r : List Str} {p : Str × Str} (h : stF i o t x = some p) : wrF o t i (x :: r) = wrF p.1 p.2 (i + 1) r := by
  conv => lhs; unfold wrF
  rw [h]
/-- amounts that rise behind (p, q) -/
def UpF : Str → Str → TRow → Prop
  | _, _, [] => True
  | p, q, t :: r => ∃ a x, t.1 = key2 a x ∧ okG p "" a = true ∧ okG "" (if a = p then q else "") x = true ∧ 0 < t.2 ∧ UpF a x r
theorem rows_wordsF : ∀ {R : TRow} {p q : Str}, UpF p q R → rowsF (wordsF R) = R
  | [], _, _, _ => rfl
  | (k, n) :: [], p, q, h => by
    obtain ⟨a, x, e, _, _, hn, _⟩ := h
    have e : k = key2 a x := e
    have hn : 0 < n := hn
    subst e
    show [(key2 a x, (valT (Fk.numT n) : Int))] = _
    rw [valT_num (Int.le_of_lt hn)]
  | (k, n) :: u :: r, p, q, h => by
    obtain ⟨a, x, e, _, _, hn, hr⟩ := h
    have e : k = key2 a x := e
    have hn : 0 < n := hn
    subst e
    have ih := rows_wordsF hr
    show (key2 a x, (valT (Fk.numT n) : Int)) :: rowsF (wordsF (u :: r)) = _
    rw [valT_num (Int.le_of_lt hn), ih]
theorem amt_numT {n : Int} (h : 0 < n) : amtB (Fk.numT n) = true := plain_amt (by
  show Plain (Fk.numT n).cps.toList
  rw [numT_cps (Int.le_of_lt h)]
  exact dl_plain (by omega))
theorem wrF_wordsF : ∀ {R : TRow} {p q : Str} {i : Nat}, i % 4 = 0 → R ≠ [] → UpF p q R → wrF p q i (wordsF R) = none
  | [], _, _, _, _, ne, _ => absurd rfl ne
  | t :: r, p, q, i, h4, _, h => by
    obtain ⟨a, x, e, h1, h2, hn, hr⟩ := h
    have ew : wordsF (t :: r) = a :: x :: Fk.numT t.2 :: semi (wordsF r) := by
      show nmK 0 t.1 :: nmK 1 t.1 :: Fk.numT t.2 :: _ = _
      rw [e]
      rfl
    rw [ew, wrF_go (p := (a, if a = p then q else "")) (by rw [st0 h4, if_pos h1]), wrF_go (p := (a, x)) (by rw [st1 (by omega), if_pos h2]), wrF_go (p := (a, x)) (by rw [st2 (by omega), if_pos (amt_numT hn)])]
    cases r with
    | nil =>
      show (if (i + 1 + 1 + 1) % 4 = 3 then none else some (i + 1 + 1 + 1)) = none
      rw [if_pos (by omega)]
    | cons u r =>
      have ih := wrF_wordsF (i := i + 4) (by omega) (List.cons_ne_nil u r) hr
      show wrF a x (i + 1 + 1 + 1) (";" :: wordsF (u :: r)) = none
      rw [wrF_go (p := (a, x)) (by rw [st3 (by omega), if_pos rfl])]
      exact ih
end Fi

set_option Elab.async false
set_option linter.all false
set_option maxRecDepth 100000
set_option maxHeartbeats 2000000
/-! What a Filling tells rises. -/
namespace Fi
open PySem PySem.NumText PySem.Spec PyProof.Rows L2 EvP Cm Fk DtE Tb XG Wd
open Dg hiding numT
theorem ltP_of {a x b y : Str} (h : ¬ ltP b y a x) (ne : key2 a x ≠ key2 b y) : ltP a x b y := by
  unfold ltP at h ⊢
  have h1 : ¬ tl b < tl a := fun z => h (.inl z)
  rcases tl_cmp h1 with e | e
  · subst e
    have h2 : ¬ tl y < tl x := fun z => h (.inr ⟨rfl, z⟩)
    rcases tl_cmp h2 with e | e
    · subst e
      exact absurd rfl ne
    · exact .inr ⟨rfl, e⟩
  · exact .inl e
theorem okG_start {x : Str} (h : nameB x = true) : okG "" "" x = true := by
  rw [ok0, h, not_lt_e]
  rfl
theorem okG_next {a x b y : Str} (h : ltP a x b y) (hb : nameB b = true) (hy : nameB y = true) : okG a "" b = true ∧ okG "" (if b = a then x else "") y = true := by
  refine ⟨?_, ?_⟩
  · rw [ok0, hb, Bool.true_and, Bool.not_eq_true', decide_eq_false_iff_not]
    intro z
    rcases h with h | ⟨h, _⟩
    · exact List.lt_irrefl _ (List.lt_trans h z)
    · rw [h] at z
      exact List.lt_irrefl _ z
  · rw [ok1, hy, Bool.true_and]
    by_cases e : b = a
    · rw [if_pos e]
      rcases h with h | ⟨_, h⟩
      · rw [e] at h
        exact absurd h (List.lt_irrefl _)
      · exact decide_eq_true h
    · rw [if_neg e]
      exact name_ne hy
def Lt2 (k l : List Key) : Prop := ∃ a x b y, k = key2 a x ∧ l = key2 b y ∧ ltP a x b y
theorem key2_inj {a b x y : Str} (h : key2 a x = key2 b y) : a = b ∧ x = y := by
  unfold key2 at h
  exact ⟨Sum.inr.inj (List.cons.inj h).1, Sum.inr.inj (List.cons.inj (List.cons.inj h).2).1⟩
theorem up_of : ∀ {L : TRow} {p q : Str}, (∀ t ∈ L, PairK t.1) → (∀ t ∈ L, 0 < t.2) → (L.map (·.1)).Pairwise Lt2 →
    (∀ t ∈ L.head?, ∀ a x, t.1 = key2 a x → okG p "" a = true ∧ okG "" (if a = p then q else "") x = true) → UpF p q L
  | [], _, _, _, _, _, _ => trivial
  | t :: r, p, q, hk, hp, hw, h0 => by
    obtain ⟨a, x, e, ha, hx⟩ := name_of (hk t (.head _))
    obtain ⟨k1, k2⟩ := h0 t rfl a x e
    rw [List.map_cons, List.pairwise_cons] at hw
    refine ⟨a, x, e, k1, k2, hp t (.head _), up_of (fun u hu => hk u (.tail _ hu)) (fun u hu => hp u (.tail _ hu)) hw.2 fun u hu b y eu => ?_⟩
    have mu : u ∈ r := List.mem_of_mem_head? hu
    obtain ⟨a', x', b', y', e1, e2, lt⟩ := hw.1 u.1 (List.mem_map.mpr ⟨u, mu, rfl⟩)
    obtain ⟨i1, i2⟩ := key2_inj (e.symm.trans e1)
    obtain ⟨i3, i4⟩ := key2_inj (eu.symm.trans e2)
    subst i1 i2 i3 i4
    obtain ⟨b2, y2, e3, hb, hy⟩ := name_of (hk u (.tail _ mu))
    obtain ⟨j1, j2⟩ := key2_inj (eu.symm.trans e3)
    subst j1 j2
    exact okG_next lt hb hy
/-- what a Filling tells of amounts rises -/
theorem told_up {r : TRow} (h : Amts r) : UpF "" "" (toldT r) := by
  have hin : ∀ t ∈ toldT r, t ∈ r ∧ 0 < t.2 ∧ lookT r t.1 = some t.2 := fun t ht => told_in h.nod ht
  refine up_of (fun t ht => h.key t (hin t ht).1) (fun t ht => (hin t ht).2.1) ?_ (fun t ht a x e => ?_)
  · have pk : ∀ k ∈ (posT r).map (·.1), PairK k := fun k hk => by
      obtain ⟨t, ht, rfl⟩ := List.mem_map.mp hk
      exact h.key t (List.mem_filter.mp ht).1
    have nd := told_nod h.nod
    rw [told_key] at nd ⊢
    rw [List.nodup_iff_pairwise_ne] at nd
    refine (List.Pairwise.and (sort_up pk) nd).imp fun {k l} z => ?_
    obtain ⟨⟨a, x, b, y, rfl, rfl, n⟩, ne⟩ := z
    exact ⟨a, x, b, y, rfl, rfl, ltP_of n ne⟩
  · obtain ⟨a2, x2, e2, ha, hx⟩ := name_of (h.key t (hin t (List.mem_of_mem_head? ht)).1)
    obtain ⟨j1, j2⟩ := key2_inj (e.symm.trans e2)
    subst j1 j2
    have z : (if a = "" then ("" : Str) else "") = "" := by split <;> rfl
    rw [z]
    exact ⟨okG_start ha, okG_start hx⟩
end Fi

set_option Elab.async false
set_option linter.all false
set_option maxRecDepth 100000
set_option maxHeartbeats 4000000
/-! Filling.__str__. -/
namespace Fi
open PySem PySem.Spec PyProof.Rows L2 EvP Cm Fk DtE Tb XG
abbrev sFStr : Stmt := fmeth 20
abbrev NFS : List Str := ["self", "pair", "amount"]
theorem scFStr : FnScope NFS ["self"] (defScope sFStr) := ⟨rfl, rfl, rfl, by decide +kernel, rfl, by decide +kernel, by decide +kernel⟩
/-- a pair and its amount, written -/
def wordK (t : List Key × Int) : Str := Str.empty ++ nmK 0 t.1 ++ " " ++ nmK 1 t.1 ++ " " ++ Fk.numT t.2
def lineF (R : TRow) : Str := if R.isEmpty = true then "-" else Txt.join " ; " (R.map wordK)
structure SmallF (R : TRow) : Prop where
  key : ∀ t ∈ R, PairK t.1
  lo : ∀ t ∈ R, 0 ≤ t.2
  hi : ∀ t ∈ R, (Dg.dl t.2.toNat).length ≤ 10000
  few : R.length < 64
theorem wordK_len {t : List Key × Int} (hk : PairK t.1) (lo : 0 ≤ t.2) (hi : (Dg.dl t.2.toNat).length ≤ 10000) :
    (Str.empty ++ nmK 0 t.1).length ≤ 8 ∧ (Str.empty ++ nmK 0 t.1 ++ " ").length ≤ 9 ∧ (Str.empty ++ nmK 0 t.1 ++ " " ++ nmK 1 t.1).length ≤ 17 ∧ (Str.empty ++ nmK 0 t.1 ++ " " ++ nmK 1 t.1 ++ " ").length ≤ 18 ∧ (wordK t).length ≤ 10018 ∧ (nmK 0 t.1).length ≤ 8 ∧ (nmK 1 t.1).length ≤ 8 := by
  obtain ⟨a, x, e, ⟨z, ez, _, ha⟩, ⟨y, ey, _, hx⟩⟩ := hk
  cases ez
  cases ey
  rw [show nmK 0 t.1 = a by rw [e]; rfl, show nmK 1 t.1 = x by rw [e]; rfl]
  have la := name_len ha
  have lx := name_len hx
  have l2 : (Fk.numT t.2).length ≤ 10000 := by
    rw [← Dg.len_cps, Dg.numT_cps lo]
    exact hi
  have a0 : (Str.empty ++ a).length = a.length := by
    rw [Str.length_append]
    exact Nat.zero_add _
  have a1 : (Str.empty ++ a ++ " ").length = a.length + 1 := by
    rw [Str.length_append, a0]
    rfl
  have a2 : (Str.empty ++ a ++ " " ++ x).length = a.length + 1 + x.length := by rw [Str.length_append, a1]
  have a3 : (Str.empty ++ a ++ " " ++ x ++ " ").length = a.length + 1 + x.length + 1 := by
    rw [Str.length_append, a2]
    rfl
  have a4 : (wordK t).length = a.length + 1 + x.length + 1 + (Fk.numT t.2).length := by
    unfold wordK
    rw [show nmK 0 t.1 = a by rw [e]; rfl, show nmK 1 t.1 = x by rw [e]; rfl, Str.length_append, a3]
  refine ⟨by omega, by omega, by omega, by omega, by omega, la, lx⟩
def spFStr (CS C : Addr) : Sp := fun vs H Q _ => ∃ a R S U, vs = [.ref a] ∧ FilAt CS C H a R S U ∧ SmallF R ∧ ∀ H', Ex H H' → Q (.str (lineF R)) H'
theorem wordsK_len : ∀ {R : TRow}, (∀ t ∈ R, (wordK t).length ≤ 10018) → ((R.map wordK).map (·.length)).sum ≤ R.length * 10018
  | [], _ => Nat.le_refl _
  | t :: r, h => by
    have ih := wordsK_len fun y hy => h y (.tail _ hy)
    have h0 := h t (.head _)
    rw [List.map_cons, List.map_cons, List.sum_cons, List.length_cons]
    omega
section
variable {P : Program} {w : World} {K : PySem.W.Frag} {mg : Str → Option Value} {base : Heap} {CS C f fN : Addr} {fd fdN : FuncData}
theorem ok_fstr (F : Fun K "__str__" "Filling.__str__" sFStr f fd) (S : FilC K C) (G : FnOk P w K mg base CX0 1 fN fdN ["number"] spNum) (b : Binds K fdN ["number"] []) (gN : mg "number_text" = some (.ref fN)) (kN : PySem.W.keepIn K (.ref fN) = true) : FnOk P w K mg base CX0 2 f fd ["self"] (spFStr CS C) := by
  have nd := scFStr.nd
  refine F.ok scFStr (fun vs H Q E h => ?_) (fun cdv A outer s H vs Q E hr h => ?_)
  · obtain ⟨a, R, S1, U1, rfl, _⟩ := h
    rfl
  · obtain ⟨a, R, S1, U1, rfl, ⟨dx, p, s1, u1, d, rr, prs, rows, h1, h2, h3, h4, h5, h6, h7, h8⟩, sm, q⟩ := h
    refine ⟨_, pss_cons (ps_if (pt_not (pt_truth (pe_fld (pv 0) rfl) (by intro _; rfl))) (pss_one (ps_ret pe_str)) pss_nil)
      (pss_one (ps_ret (pe_join pe_str (pe_lc (own := [("pair", 1), ("amount", 2)]) (g := gTup K 2 (gCons (gName 1) (gCons (gName 2) gNil))) (tt := tYes) rfl nd (pi_tup (pe_fld (pv 0) rfl)) (blkOk_by (N := NFS) (sc := defScope sFStr) (by decide +kernel))
        (fun _ _ _ _ _ => by exact pg_tup rfl (pgs_cons (pg_name (i := 1) nd rfl (Or.inl rfl)) (pgs_cons (pg_name (i := 2) nd rfl (Or.inl rfl)) pgs_nil))) (fun _ _ _ _ _ => pts_nil)
        (fun _ _ _ _ _ => pe_joined (.cons (pe_fmt (pe_ix (r := rIxT K) ix_tup (pv 1) pe_int (fun _ _ => rfl))) (.cons pe_str (.cons (pe_fmt (pe_ix (r := rIxT K) ix_tup (pv 1) pe_int (fun _ _ => rfl))) (.cons pe_str (.cons (pe_fmt (pe_call G hr (by rfl) gN kN b .nil pass0 (pa_cons (pv 2) pa_nil))) .nil)))))))))), ?_⟩
    refine ⟨_, rfl, a, C, dx, _, _, rfl, h1, S.cl, S.nP, rfl, _, .inr (.inl ⟨_, SqT.of h2, rfl⟩), ?_⟩
    have lp : prs.length = R.length := by rw [keys_len h3, List.length_map]
    cases R with
    | nil =>
      have e : prs = [] := List.length_eq_zero_iff.mp lp
      subst e
      exact q H (Ex.refl H)
    | cons t0 tr =>
      generalize hts : t0 :: tr = R at *
      have ne : R.isEmpty = false := by
        rw [← hts]
        rfl
      have line : lineF R = Txt.join " ; " (R.map wordK) := by
        unfold lineF
        rw [ne, if_neg Bool.false_ne_true]
      have emp : prs.isEmpty = false := by
        cases prs with
        | nil =>
          rw [← hts] at lp
          cases lp
        | cons _ _ => rfl
      rw [emp]
      have zl : (prs.zip R).length = R.length := by rw [List.length_zip, lp, Nat.min_self]
      have rl : rows.length = R.length := by
        have := h8.length
        rw [List.length_map, zl] at this
        exact this
      dsimp only [Bool.not_false, Bool.not_true, tNext]
      rw [if_neg (by decide)]
      refine' st_retJoin ?g1 ?k1
      case g1 =>
        refine compP (Ps := R.map fun t => is (.str (wordK t))) (walks_tup (g_fld rfl h1 S.cl S.nR rfl (⟨rr, rfl, h7⟩ : (tupV rows).R (.ref rr) H))) (by rw [rl]; have := sm.few; omega) (by rw [List.length_map, rl]) (fun j x P hx hP => ?_) (fun P hP => ?_)
        · rw [List.getElem?_map] at hP
          obtain ⟨t, ht, rfl⟩ := Option.map_eq_some_iff.mp hP
          have mt := List.mem_of_getElem? ht
          obtain ⟨jl, _⟩ := List.getElem?_eq_some_iff.mp ht
          have hpj : prs[j]? = some (prs[j]'(by omega)) := List.getElem?_eq_getElem _
          obtain ⟨b2, k, hk, eb, hb⟩ := keys_get h3 hpj
          have ek : k = t.1 := by
            rw [List.getElem?_map, ht] at hk
            exact (Option.some.inj hk).symm
          subst ek
          rw [eb] at hpj
          have hz : (prs.zip R)[j]? = some (V.ref b2, t) := by
            rw [List.getElem?_zip_eq_some]
            exact ⟨hpj, ht⟩
          obtain ⟨v, hv, p2, ev, hp⟩ := h8.get (i := j) (P := tupV [.ref b2, .int t.2]) (by rw [List.getElem?_map, hz]; rfl)
          have exv : x = v := Option.some.inj (hx.symm.trans hv)
          subst exv
          subst ev
          obtain ⟨l1, l2, l3, l4, l5, l6, l7⟩ := wordK_len (sm.key t mt) (sm.lo t mt) (sm.hi t mt)
          have big : ∀ {k}, k ≤ 10018 → k ≤ sizeLine := fun h => by
            rw [sizeLine_eq]
            omega
          have lm : (Fk.numT t.2).length ≤ sizeLine := by
            rw [← Dg.len_cps, Dg.numT_cps (sm.lo t mt)]
            exact big (Nat.le_trans (sm.hi t mt) (by decide))
          have n0 := (nmK_ok (j := 0) (by decide) (sm.key t mt)).1
          have n1 := (nmK_ok (j := 1) (by decide) (sm.key t mt)).1
          refine ⟨[some (.ref a), some (.ref b2), some (.int t.2)], rfl, fun H1 e Q k => ⟨p2, _, rfl, SqT.of (e _ _ hp), rfl, _, _, rfl, _, _, rfl, rfl, k⟩, fun H1 e Q k => ?_⟩
          refine ⟨_, rfl, b2, _, _, _, rfl, rfl, SqT.of (e _ _ hb), atI_nat n0, ?_⟩
          refine .inl ⟨nmK 0 t.1, rfl, big (by omega), nmK 0 t.1, rfl, big (by omega), " ", rfl, big (by omega), ?_⟩
          refine ⟨_, rfl, b2, _, _, _, rfl, rfl, SqT.of (e _ _ hb), atI_nat n1, ?_⟩
          exact .inl ⟨nmK 1 t.1, rfl, big (by omega), nmK 1 t.1, rfl, big (by omega), " ", rfl, big (by omega), _, rfl, t.2, rfl, sm.lo t mt, sm.hi t mt, fun H' e' => .inl ⟨Fk.numT t.2, rfl, lm, Fk.numT t.2, rfl, big l5, k _ _ e' rfl⟩⟩
        · obtain ⟨t, _, rfl⟩ := List.mem_map.mp hP
          exact stays_is _
      intro v H1 e1 ⟨D, ws, ev, hD, _, hs⟩
      subst ev
      have ews : ws = (R.map wordK).map V.str := by
        rw [List.map_map]
        refine all2_is (H := H1) ?_
        rw [List.map_map]
        exact hs
      subst ews
      refine ⟨" ; ", D, R.map wordK, rfl, rfl, .inl (SqL.of hD), ?_, by rw [← line]; exact q _ e1⟩
      have w := wordsK_len (R := R) fun t mt => (wordK_len (sm.key t mt) (sm.lo t mt) (sm.hi t mt)).2.2.2.2.1
      have f := sm.few
      rw [List.length_map]
      show _ + R.length * 3 ≤ 16777216
      omega
end
end Fi

set_option Elab.async false
set_option linter.all false
set_option maxRecDepth 100000
set_option maxHeartbeats 2000000
/-! A filling's text, read. -/
namespace Fi
open PySem PySem.NumText PySem.Spec PyProof.Rows L2 EvP Cm Fk DtE Tb XG Wd
open Dg hiding numT
theorem lineK : ∀ {R : TRow}, R ≠ [] → Txt.join " ; " (R.map wordK) = Txt.join sp (wordsF R)
  | [], h => absurd rfl h
  | [t], _ => by
    rw [TL.join_eq, TL.join_eq]
    show wordK t = nmK 0 t.1 ++ sp ++ (nmK 1 t.1 ++ sp ++ Fk.numT t.2)
    unfold wordK
    rw [empty_app]
    refine Dg.ext ?_
    simp only [app_cps, List.append_assoc]
  | t :: u :: r, _ => by
    have ih := lineK (R := u :: r) (by simp)
    rw [TL.join_eq, TL.join_eq] at ih ⊢
    show wordK t ++ " ; " ++ Str.join " ; " ((u :: r).map wordK) = nmK 0 t.1 ++ sp ++ (nmK 1 t.1 ++ sp ++ (Fk.numT t.2 ++ sp ++ ((";" : Str) ++ sp ++ Str.join sp (wordsF (u :: r)))))
    rw [ih]
    unfold wordK
    rw [empty_app]
    have e : (" ; " : Str).cps.toList = sp.cps.toList ++ (";" : Str).cps.toList ++ sp.cps.toList := by decide +kernel
    refine Dg.ext ?_
    simp only [app_cps, List.append_assoc, e]
theorem name_no {x : Str} (h : nameB x = true) : 32 ∉ tl x := fun z => by
  have := name_low h 32 z
  omega
theorem wordsF_no : ∀ {R : TRow} {p q : Str}, UpF p q R → ∀ z ∈ wordsF R, 32 ∉ tl z
  | [], _, _, _, z, hz => by cases hz
  | t :: r, p, q, h, z, hz => by
    obtain ⟨a, x, e, h1, h2, hn, hr⟩ := h
    have ew : wordsF (t :: r) = a :: x :: Fk.numT t.2 :: semi (wordsF r) := by
      show nmK 0 t.1 :: nmK 1 t.1 :: Fk.numT t.2 :: _ = _
      rw [e]
      rfl
    rw [ew] at hz
    rcases List.mem_cons.mp hz with rfl | hz
    · exact name_no (okG_name h1).1
    rcases List.mem_cons.mp hz with rfl | hz
    · exact name_no (okG_name h2).1
    rcases List.mem_cons.mp hz with rfl | hz
    · intro h32
      have h0 : 0 ≤ t.2 := Int.le_of_lt hn
      have := dl_digits t.2.toNat 32 (by rw [← numT_cps h0]; exact h32)
      omega
    · unfold semi at hz
      split at hz
      · cases hz
      · rcases List.mem_cons.mp hz with rfl | hz
        · decide +kernel
        · exact wordsF_no hr z hz
theorem wrongF_line {R : TRow} (h : UpF "" "" R) : wrongF (ws (lineF R)) = none ∧ readF (ws (lineF R)) = R := by
  by_cases e : R = []
  · subst e
    have : ws (lineF []) = [("-" : Str)] := cut (ps := [("-" : Str)]) (by simp) (by decide +kernel)
    rw [this]
    exact ⟨rfl, rfl⟩
  · have ne : wordsF R ≠ [] := by
      cases R with
      | nil => exact absurd rfl e
      | cons t r => exact fun z => nomatch z
    have ew : ws (lineF R) = wordsF R := by
      unfold lineF
      rw [if_neg (by simpa using e), lineK e]
      exact cut ne (wordsF_no h)
    have hd : ¬ (wordsF R).head? = some ("-" : Str) := by
      cases R with
      | nil => exact absurd rfl e
      | cons t r =>
        obtain ⟨a, x, et, h1, _⟩ := h
        intro z
        have z2 : nmK 0 t.1 = "-" := Option.some.inj z
        rw [et, nmK_0] at z2
        have n := (okG_name h1).1
        rw [z2, dash_name] at n
        cases n
    rw [ew]
    unfold wrongF readF
    rw [if_neg hd, if_neg hd]
    exact ⟨wrF_wordsF rfl e h, rows_wordsF h⟩
end Fi

set_option Elab.async false
set_option linter.all false
set_option maxRecDepth 100000
set_option maxHeartbeats 2000000
/-! A text that can be read is the text of what is read. -/
namespace Fi
open PySem PySem.NumText PySem.Spec PyProof.Rows L2 EvP Cm Fk DtE Tb XG Wd
open Dg hiding numT
theorem wrF_inv {o t x : Str} {i : Nat} {r : List Str} (h : wrF o t i (x :: r) = none) : ∃ p, stF i o t x = some p ∧ wrF p.1 p.2 (i + 1) r = none := by
  cases e : stF i o t x with
  | none =>
    unfold wrF at h
    rw [e] at h
    cases h
  | some p =>
    rw [wrF_go e] at h
    exact ⟨p, rfl, h⟩
theorem wrF_nil {o t : Str} {i : Nat} (h : wrF o t i [] = none) : i % 4 = 3 := by
  unfold wrF at h
  by_cases c : i % 4 = 3
  · exact c
  · rw [if_neg c] at h
    cases h
theorem wrF_up : ∀ (n : Nat) {l : List Str} {p q : Str} {i : Nat}, l.length ≤ n → i % 4 = 0 → wrF p q i l = none → UpF p q (rowsF l) ∧ wordsF (rowsF l) = l
  | 0, l, p, q, i, hl, h4, h => by
    have : l = [] := List.length_eq_zero_iff.mp (by omega)
    subst this
    have := wrF_nil h
    omega
  | n + 1, [], p, q, i, hl, h4, h => by
    have := wrF_nil h
    omega
  | n + 1, a :: l1, p, q, i, hl, h4, h => by
    obtain ⟨p1, e1, h⟩ := wrF_inv h
    rw [st0 h4] at e1
    have k1 : okG p "" a = true := by
      by_cases c : okG p "" a = true
      · exact c
      · rw [if_neg c] at e1
        cases e1
    rw [if_pos k1] at e1
    cases Option.some.inj e1
    cases l1 with
    | nil =>
      have := wrF_nil h
      omega
    | cons b l2 =>
      obtain ⟨p2, e2, h⟩ := wrF_inv h
      rw [st1 (by omega)] at e2
      dsimp only at e2
      have k2 : okG "" (if a = p then q else "") b = true := by
        by_cases c : okG "" (if a = p then q else "") b = true
        · exact c
        · rw [if_neg c] at e2
          cases e2
      rw [if_pos k2] at e2
      cases Option.some.inj e2
      cases l2 with
      | nil =>
        have := wrF_nil h
        omega
      | cons m l3 =>
        obtain ⟨p3, e3, h⟩ := wrF_inv h
        rw [st2 (by omega)] at e3
        dsimp only at e3
        have k3 : amtB m = true := by
          by_cases c : amtB m = true
          · exact c
          · rw [if_neg c] at e3
            cases e3
        rw [if_pos k3] at e3
        cases Option.some.inj e3
        have pos : 0 < valT m := by
          have z := amt_num m
          rw [k3, Bool.and_eq_true, decide_eq_true_eq] at z
          omega
        have back : Fk.numT (valT m : Int) = m := numT_val (amt_plain k3)
        cases l3 with
        | nil =>
          refine ⟨⟨a, b, rfl, k1, k2, by show (0 : Int) < (valT m : Int); omega, trivial⟩, ?_⟩
          show [a, b, Fk.numT (valT m : Int)] = _
          rw [back]
        | cons s l4 =>
          obtain ⟨p4, e4, h5⟩ := wrF_inv h
          rw [st3 (by omega)] at e4
          dsimp only at e4
          have k4 : s = ";" := by
            by_cases c : s = ";"
            · exact c
            · rw [if_neg c] at e4
              cases e4
          rw [if_pos k4] at e4
          cases Option.some.inj e4
          subst k4
          obtain ⟨u, v⟩ := wrF_up n (l := l4) (by simp only [List.length_cons] at hl; omega) (by omega) h5
          refine ⟨⟨a, b, rfl, k1, k2, by show (0 : Int) < (valT m : Int); omega, u⟩, ?_⟩
          show a :: b :: Fk.numT (valT m : Int) :: semi (wordsF (rowsF l4)) = _
          rw [back, v]
          cases l4 with
          | nil =>
            have := wrF_nil h5
            omega
          | cons c l5 => rfl
theorem line_wrongF {x : Str} (h : wrongF (ws x) = none) : UpF "" "" (readF (ws x)) ∧ lineF (readF (ws x)) = x := by
  unfold wrongF at h
  unfold readF
  by_cases hd : (ws x).head? = some ("-" : Str)
  · rw [if_pos hd] at h ⊢
    refine ⟨trivial, ?_⟩
    by_cases c : 1 < (ws x).length
    · rw [if_pos c] at h
      cases h
    · have e : ws x = [("-" : Str)] := by
        cases l : ws x with
        | nil => exact absurd l (ws_ne x)
        | cons a r =>
          rw [l] at hd c
          cases Option.some.inj hd
          have : r = [] := by
            cases r with
            | nil => rfl
            | cons b r => exact absurd (show 1 < (("-" : Str) :: b :: r).length by simp) c
          rw [this]
      have g := glue x
      rw [e] at g
      exact g
  · rw [if_neg hd] at h ⊢
    obtain ⟨u, v⟩ := wrF_up _ (Nat.le_refl _) rfl h
    refine ⟨u, ?_⟩
    have ne : rowsF (ws x) ≠ [] := fun z => by
      rw [z] at v
      exact ws_ne x v.symm
    unfold lineF
    rw [if_neg (by simpa using ne), lineK ne, v, glue]
end Fi

set_option Elab.async false
set_option linter.all false
set_option maxRecDepth 100000
set_option maxHeartbeats 2000000
/-! What rises is told as it is. -/
namespace Fi
open PySem PySem.NumText PySem.Spec PyProof.Rows L2 EvP Cm Fk DtE Tb XG Wd
open Dg hiding numT
theorem ltP_trans {a x b y c z : Str} (h : ltP a x b y) (k : ltP b y c z) : ltP a x c z := by
  rcases h with h | ⟨h, h2⟩
  · rcases k with k | ⟨k, _⟩
    · exact .inl (List.lt_trans h k)
    · exact .inl (by rw [← k]; exact h)
  · rcases k with k | ⟨k, k2⟩
    · exact .inl (by rw [h]; exact k)
    · exact .inr ⟨h.trans k, List.lt_trans h2 k2⟩
theorem ltP_irr {a x : Str} (h : ltP a x a x) : False := by
  rcases h with h | ⟨_, h⟩ <;> exact List.lt_irrefl _ h
theorem okG_lt {p q a x : Str} (h1 : okG p "" a = true) (h2 : okG "" (if a = p then q else "") x = true) : ltP p q a x := by
  obtain ⟨_, l, _⟩ := okG_name h1
  obtain ⟨_, _, m⟩ := okG_name h2
  rcases tl_cmp l with e | e
  · subst e
    rw [if_pos rfl] at m
    exact .inr ⟨rfl, m⟩
  · exact .inl e
/-- two pairs of names, the first before the second -/
def Lt3 (k l : List Key) : Prop := ∃ a x b y, k = key2 a x ∧ l = key2 b y ∧ ltP a x b y ∧ nameB a = true ∧ nameB x = true ∧ nameB b = true ∧ nameB y = true
theorem up_all : ∀ {R : TRow} {p q : Str}, UpF p q R → (R.map (·.1)).Pairwise Lt3 ∧ (∀ t ∈ R, 0 < t.2) ∧ ∀ t ∈ R, ∃ a x, t.1 = key2 a x ∧ ltP p q a x ∧ nameB a = true ∧ nameB x = true
  | [], _, _, _ => ⟨.nil, (fun t ht => by cases ht), (fun t ht => by cases ht)⟩
  | t :: r, p, q, h => by
    obtain ⟨a, x, e, h1, h2, hn, hr⟩ := h
    have lt := okG_lt h1 h2
    have na := (okG_name h1).1
    have nx := (okG_name h2).1
    obtain ⟨i1, i2, i3⟩ := up_all hr
    refine ⟨?_, fun u hu => ?_, fun u hu => ?_⟩
    · rw [List.map_cons, List.pairwise_cons]
      refine ⟨fun l hl => ?_, i1⟩
      obtain ⟨u, hu, rfl⟩ := List.mem_map.mp hl
      obtain ⟨b, y, eu, lu, nb, ny⟩ := i3 u hu
      exact ⟨a, x, b, y, e, eu, lu, na, nx, nb, ny⟩
    · rcases List.mem_cons.mp hu with rfl | hu
      · exact hn
      · exact i2 u hu
    · rcases List.mem_cons.mp hu with rfl | hu
      · exact ⟨a, x, e, lt, na, nx⟩
      · obtain ⟨b, y, eu, lu, nb, ny⟩ := i3 u hu
        exact ⟨b, y, eu, ltP_trans lt lu, nb, ny⟩
theorem up_nod {R : TRow} {p q : Str} (h : UpF p q R) : (R.map (·.1)).Nodup := by
  rw [List.nodup_iff_pairwise_ne]
  refine (up_all h).1.imp fun {k l} z e => ?_
  obtain ⟨a, x, b, y, e1, e2, lt, _⟩ := z
  obtain ⟨i, j⟩ := key2_inj (e1.symm.trans (e.trans e2))
  subst i j
  exact ltP_irr lt
def leT (k l : List Key) : Prop := tl (textK k) ≤ tl (textK l)
theorem told_up_self {R : TRow} {p q : Str} (h : UpF p q R) : toldT R = R := by
  obtain ⟨h1, h2, h3⟩ := up_all h
  have nod := up_nod h
  have ep : posT R = R := List.filter_eq_self.mpr fun t ht => decide_eq_true (h2 t ht)
  have pk : ∀ k ∈ R.map (·.1), ∃ a x, k = key2 a x ∧ nameB a = true ∧ nameB x = true := fun k hk => by
    obtain ⟨t, ht, rfl⟩ := List.mem_map.mp hk
    obtain ⟨a, x, e, _, na, nx⟩ := h3 t ht
    exact ⟨a, x, e, na, nx⟩
  have pw1 : (R.map (·.1)).Pairwise leT := h1.imp fun {k l} z => by
    obtain ⟨a, x, b, y, rfl, rfl, lt, na, nx, nb, ny⟩ := z
    exact List.le_of_lt ((lt_textK na nx nb ny).mpr lt)
  have pw2 : (sortK (R.map (·.1))).Pairwise leT := by
    have z := List.pairwise_mergeSort (le := leK) (fun a b c h k => by
      unfold leK at h k ⊢
      rw [PySem.W.dataLe_str, decide_eq_true_eq] at h k ⊢
      exact List.le_trans h k) (fun a b => by
      unfold leK
      rw [PySem.W.dataLe_str, Bool.or_eq_true, decide_eq_true_eq, decide_eq_true_eq]
      exact List.le_total _ _) (R.map (·.1))
    refine z.imp fun {k l} y => ?_
    unfold leK at y
    rw [PySem.W.dataLe_str, decide_eq_true_eq] at y
    exact y
  have es : sortK (R.map (·.1)) = R.map (·.1) := by
    refine List.Perm.eq_of_pairwise (le := leT) (fun k l hk hl y z => ?_) pw2 pw1 (sortK_perm _)
    obtain ⟨a, x, rfl, na, nx⟩ := pk k ((sortK_perm _).mem_iff.mp hk)
    obtain ⟨b, y2, rfl, nb, ny⟩ := pk l hl
    by_cases e : key2 a x = key2 b y2
    · exact e
    · exfalso
      have n1 : ¬ ltP b y2 a x := fun lt => List.not_lt.mpr y ((lt_textK nb ny na nx).mpr lt)
      exact List.not_lt.mpr z ((lt_textK na nx nb ny).mpr (ltP_of n1 e))
  unfold toldT
  rw [ep, es, List.map_map]
  conv => rhs; rw [← List.map_id R]
  refine List.map_congr_left fun t ht => ?_
  show (t.1, amtT R t.1) = t
  unfold amtT
  rw [look_of nod ht]
  rfl
end Fi

set_option Elab.async false
set_option linter.all false
set_option maxRecDepth 100000
set_option maxHeartbeats 4000000
/-! _law_told: the pairs with their amounts above 0, in order. -/
namespace Fi
open PySem PySem.NumText PySem.Spec PyProof.Rows L2 EvP Cm Fk DtE Tb XG Wd
open Dg hiding numT
/-- d locked, all else as it was -/
structure Lk (H : Hp) (d : Addr) (r : TRow) (H1 : Hp) : Prop where
  kp : ∀ c o, H c = some o → c ≠ d → H1 c = some o
  fz : ∃ od, H1 d = some (.frz od (.dT (tents r)))
theorem Lk.ex {H H1 H2 : Hp} {d : Addr} {r : TRow} (b : Lk H d r H1) (e : Ex H1 H2) : Lk H d r H2 := ⟨fun c o h ne => e _ _ (b.kp c o h ne), by
  obtain ⟨od, h⟩ := b.fz
  exact ⟨od, e _ _ h⟩⟩
section
variable {K : PySem.W.Frag} {σ : L2.St} {H : Hp} {vs : List Nat} {m i : Nat} {tt : TT} {te : TE} {d : Addr} {r : TRow}
/-- [e for k in d if t], d a dict of pairs -/
theorem comp_keysF (keep : List Key × Int → Bool) (φ : List Key → V) (hd : σ[m]? = some (some (.ref d))) (at_ : H d = some (.dT (tents r))) (hz : r.length ≤ 1000) (wp : ∀ x, wipe ((wipe σ vs).set i (some x)) vs = wipe σ vs)
    (ht : ∀ z ∈ r, ∀ q H1, Lk H d r H1 → H1 q = some (.tup (z.1.map kV)) → ∀ Q : Bool → Hp → Prop, (∀ H2, Ex H1 H2 → Q (keep z) H2) → tt ((wipe σ vs).set i (some (.ref q))) H1 Q)
    (he : ∀ z ∈ r, keep z = true → ∀ q H1, Lk H d r H1 → H1 q = some (.tup (z.1.map kV)) → ∀ Q : VK, (∀ H2, Ex H1 H2 → Q (φ z.1) H2) → te ((wipe σ vs).set i (some (.ref q))) H1 Q) :
    Gives (tLockE (tLc (iKeys (tVar m)) (gName i) tt te vs)) σ H (lstV ((r.filter keep).map fun z => φ z.1)) := fun H1 e1 Q q => by
  have h1 := e1 _ _ at_
  refine ⟨d, _, h1, True.intro, fun od => ⟨_, hd, d, od, rfl, .inr ⟨tents r, upd_same, fun D hD => ?_⟩⟩⟩
  have nd : d ≠ D := fun z => by
    rw [← z, upd_same] at hD
    cases hD
  have nD : H1 D = none := by rw [upd_ne nd.symm] at hD; exact hD
  have kp : ∀ c o, H1 c = some o → c ≠ d → upd (upd H1 d (.frz od (.dT (tents r)))) D (.lst []) c = some o := fun c o hc ne => by
    rw [upd_ne (ne_of_none hc nD), upd_ne ne]
    exact hc
  refine lc_it walk_keysT (fun j H' => H' D = some (.lst (((r.take j).filter keep).map fun z => φ z.1)) ∧ H' d = some (.frz od (.dT (tents r))) ∧ (∀ c o, H1 c = some o → c ≠ d → H' c = some o)) ⟨by rw [List.take_zero]; exact upd_same, by rw [upd_ne nd]; exact upd_same, kp⟩ (fun j H' _ ⟨_, e, _⟩ => e) (fun j x H' H'' hj ⟨a1, a2, a3⟩ y => ?_) (fun H' ⟨a1, a2, a3⟩ => ?_)
  · obtain ⟨rfl, kk, vv, qq, hkk, rfl, hq⟩ := y
    unfold tents at hkk
    rw [List.getElem?_map] at hkk
    obtain ⟨z, hz', ez⟩ := Option.map_eq_some_iff.mp hkk
    obtain ⟨rfl, rfl⟩ := Prod.mk.inj ez
    have mz := List.mem_of_getElem? hz'
    have tk : r.take (j + 1) = r.take j ++ [z] := by
      rw [List.take_add_one, hz']
      rfl
    have bd : Lk H d r H'' := ⟨fun c o hc ne => a3 _ _ (e1 _ _ hc) ne, od, a2⟩
    refine ⟨wp _, ht z mz qq H'' bd hq _ fun H2 e2 => ?_⟩
    cases kx : keep z with
    | false =>
      refine ⟨?_, e2 _ _ a2, fun c o hc ne => e2 _ _ (a3 c o hc ne)⟩
      rw [tk, List.filter_append, List.filter_cons, kx]
      simpa using e2 _ _ a1
    | true =>
      refine he z mz kx qq H2 (bd.ex e2) (e2 _ _ hq) _ fun H3 e3 => ?_
      have e23 := e2.trans e3
      refine ⟨_, e23 _ _ a1, ?_, ?_, ?_, fun c o hc ne => ?_⟩
      · rw [List.length_map]
        have := List.length_filter_le keep (r.take j)
        rw [List.length_take] at this
        rw [sizeLine_eq]
        omega
      · rw [upd_same, tk, List.filter_append, List.filter_cons, kx, List.map_append]
        rfl
      · rw [upd_ne nd]
        exact e23 _ _ a2
      · rw [upd_ne (ne_of_none hc nD)]
        exact e23 _ _ (a3 _ _ hc ne)
  · have e : (tents r).length = r.length := List.length_map _
    rw [e, List.take_length] at a1
    refine ⟨a2, q _ _ (fun c o hc => ?_) ⟨D, rfl, by rw [upd_ne nd.symm]; exact a1⟩⟩
    by_cases cd : c = d
    · rw [cd, upd_same, ← h1, ← cd]
      exact hc
    · rw [upd_ne cd]
      exact a3 _ _ hc cd
theorem stays_tup {Ps : List PR} (h : ∀ P ∈ Ps, Stays P) : Stays (EvP.tup Ps) := fun v H D l1 l2 ⟨a, ws, h1, h2, h3⟩ hD => ⟨a, ws, h1, by
  rw [upd_ne (ne_of h2 hD fun z => nomatch z)]
  exact h2, all2_stays hD h h3⟩
/-- plain[pair], a locked dict or not -/
theorem go_look {Q : VK} {q : Addr} {k : List Key} {n : Int} {l : Nat} (hi : σ[m]? = some (some (.ref d))) (hl : σ[l]? = some (some (.ref q))) (hd : H d = some (.dT (tents r)) ∨ ∃ od, H d = some (.frz od (.dT (tents r)))) (hq : H q = some (.tup (k.map kV))) (h : lookT r k = some n) (c : Q (.int n) H) : tDGet (tVar m) (tVar l) σ H Q := by
  refine ⟨_, hi, _, hl, d, _, rfl, .inr ⟨tents r, k, q, hd, rfl, hq, ?_⟩, c⟩
  rw [valV_tents, h]
  rfl
end
abbrev sTold : Stmt := top 46
abbrev NTd : List Str := ["plain", "lines", "rows_so", "pair", "line"]
theorem scTold : FnScope NTd ["plain"] (defScope sTold) := ⟨rfl, rfl, rfl, by decide +kernel, rfl, by decide +kernel, by decide +kernel⟩
abbrev rSp : V → List V → Hp → VK → Prop := fun x xs H Q => ∃ a b, x = .str a ∧ xs = [.str b] ∧ (b.length == 0) = false ∧ a.length + 2 ≤ sizeLine ∧ rNewStrs (Txt.split a b) H Q
abbrev rowP (t : List Key × Int) : PR := EvP.tup [isK t.1, is (.int t.2)]
theorem stays_rowP (t : List Key × Int) : Stays (rowP t) := stays_tup fun P hP => by
  rcases List.mem_cons.mp hP with rfl | hP
  · exact stays_tupV _
  · rw [List.mem_singleton.mp hP]
    exact stays_is _
def spTold : Sp := fun vs H Q _ => ∃ (d : Addr) (r : TRow), vs = [.ref d] ∧ H d = some (.dT (tents r)) ∧ DrawnF r ∧
  ∀ a ws H', Ex H H' → H' a = some (.lst ws) → All2 H' ((toldT r).map rowP) ws → Q (.ref a) H'
theorem textP_ws {k : List Key} (h : GoodP k) : (ws (textP k)).map V.str = k.map kV := by
  obtain ⟨a, x, rfl, ha, hx⟩ := h
  have e : textP (key2 a x) = Txt.join sp [a, x] := by
    rw [TL.join_eq]
    show a ++ " " ++ x = a ++ sp ++ x
    rfl
  rw [e, cut (by simp) (fun p hp => by
    rcases List.mem_cons.mp hp with rfl | hp
    · exact name_no ha
    · rw [List.mem_singleton.mp hp]
      exact name_no hx)]
  rfl
theorem textP_len {k : List Key} (h : GoodP k) : (textP k).length ≤ 17 := by
  obtain ⟨a, x, rfl, ha, hx⟩ := h
  have := (name_small ha).1
  have := (name_small hx).1
  show (a ++ " " ++ x).length ≤ 17
  rw [Str.length_append, Str.length_append]
  show a.length + 1 + x.length ≤ 17
  omega
section
variable {P : Program} {w : World} {K : PySem.W.Frag} {mg : Str → Option Value} {base : Heap} {f : Addr} {fd : FuncData}
theorem ok_toldF (F : Fun K "_law_told" "_law_told" sTold f fd) (hS : mg "sorted" = none) (hT : mg "str" = none) (hU : mg "tuple" = none) : FnOk P w K mg base CX0 1 f fd ["plain"] spTold := by
  have nd := scTold.nd
  refine F.ok scTold (fun vs H Q E h => ?_) (fun cdv A outer s H vs Q E hr h => ?_)
  · obtain ⟨d, r, rfl, _⟩ := h
    rfl
  · obtain ⟨d, r, rfl, hd, dr, q⟩ := h
    have hu := hu_of hr
    refine ⟨_, pss_cons (ps_set (i := 1) nd rfl (Or.inl rfl) (pe_callB cr_sortedS (by rfl) hS (by decide +kernel) (pa_cons (pe_lock (pe_lc (own := [("pair", 3)]) (g := gName 3) (tt := tTest (tOp (rI0 fun i j => .bl (decide (j < i))) (tDGet (tVar 0) (tVar 3)) (tC (.int 0)))) rfl nd (pi_keys (pv 0)) (blkOk_by (N := NTd) (sc := defScope sTold) (by decide +kernel))
        (fun _ _ _ _ _ => pg_name (i := 3) nd rfl (Or.inl rfl)) (fun _ _ _ _ _ => pts_one (pt_cmpR op_gt (pe_dget hu (pv 0) (pv 3) (fun _ _ => rfl)) pe_int (nomark _)))
        (fun _ _ _ _ _ => by exact pe_callTy (T := "str") SkE.call_str_str (by rfl) hT (by decide +kernel) (pa_cons (pe_op op_add_str (pe_op op_add_str (pe_ix (r := rIxT K) ix_tup (pv 3) pe_int (fun _ _ => rfl)) pe_str) (pe_ix (r := rIxT K) ix_tup (pv 3) pe_int (fun _ _ => rfl))) pa_nil)))) pa_nil)))
      (pss_cons (ps_setLc (i := 2) (own := [("line", 4)]) (g := gName 4) (tt := tYes) (te := tThen (tM1 rSp (tVar 4) (tC (.str " "))) (kTup K)) rfl nd rfl rfl (by rfl) (pi_list (pv 1)) (blkOk_by (N := NTd) (sc := defScope sTold) (by decide +kernel))
        (fun _ _ _ _ _ => pg_name (i := 4) nd rfl (Or.inl rfl)) (fun _ _ _ _ _ => pts_nil) (fun _ _ _ _ _ => by exact pe_tupleOf (by rfl) hU (pe_split (pv 4) pe_str)))
      (pss_one (ps_ret (pe_lc (own := [("pair", 3)]) (g := gName 3) (tt := tYes) (te := tTup (tCons (tVar 3) (tCons (tDGet (tVar 0) (tVar 3)) tNil))) rfl nd (pi_list (pv 2)) (blkOk_by (N := NTd) (sc := defScope sTold) (by decide +kernel))
        (fun _ _ _ _ _ => pg_name (i := 3) nd rfl (Or.inl rfl)) (fun _ _ _ _ _ => pts_nil) (fun _ _ _ _ _ => pe_tup (pa_cons (pv 3) (pa_cons (pe_dget hu (pv 0) (pv 3) (fun _ _ => rfl)) pa_nil))))))), ?_⟩
    have few := dr.few
    have ks_ : ∀ k ∈ (posT r).map (·.1), GoodP k := fun k hk => by
      obtain ⟨t, ht, rfl⟩ := List.mem_map.mp hk
      exact dr.key t (List.mem_filter.mp ht).1
    have lp : (posT r).length ≤ 9 := Nat.le_trans (List.length_filter_le _ _) few
    -- lines
    refine' EvP.st_set (P := lstV ((srt (((posT r).map (·.1)).map textP)).map V.str)) ?h1 ?k1
    case h1 =>
      refine g_sorted ?_ (by rw [List.length_map, List.length_map]; omega)
      have e : (((posT r).map (·.1)).map textP).map V.str = (r.filter fun t => decide (0 < t.2)).map fun z => V.str (textP z.1) := by
        unfold posT
        rw [List.map_map, List.map_map]
        rfl
      rw [e]
      refine comp_keysF (m := 0) (i := 3) (d := d) (fun t => decide (0 < t.2)) (fun k => V.str (textP k)) rfl hd (by omega) (fun _ => rfl) (fun z hz q1 H1 lk hq Q h => ?_) (fun z hz kz q1 H1 lk hq Q h => ?_)
      · refine go_look (r := r) (k := z.1) (n := z.2) rfl rfl (.inr lk.fz) hq (look_of dr.nod hz) ?_
        exact ⟨z.2, 0, rfl, rfl, _, rfl, h _ (Ex.refl _)⟩
      · obtain ⟨a, x, ek, ha, hx⟩ := dr.key z hz
        rw [ek] at hq h
        have la := (name_small ha).1
        have lx := (name_small hx).1
        refine ⟨_, rfl, q1, _, 0, .str a, rfl, rfl, SqT.of hq, atI_nat (xs := [V.str a, .str x]) (j := 0) rfl, a, " ", rfl, rfl, by rw [sizeLine_eq]; show a.length + 1 ≤ 16777216; omega, _, rfl, q1, _, 1, .str x, rfl, rfl, SqT.of hq, atI_nat (xs := [V.str a, .str x]) (j := 1) rfl, a ++ " ", x, rfl, rfl, ?_, _, rfl, h _ (Ex.refl _)⟩
        rw [Str.length_append, sizeLine_eq]
        show a.length + 1 + x.length ≤ 16777216
        omega
    intro v1 H1 e1 hv1
    rw [← sort_texts fun k hk => (ks_ k hk).pairK] at hv1
    obtain ⟨l1, rfl, hl1⟩ := hv1
    -- rows_so
    refine' EvP.st_set (P := lst H1 ((sortK ((posT r).map (·.1))).map isK)) ?h2 ?k2
    case h2 =>
      refine compP (xs := ((sortK ((posT r).map (·.1))).map textP).map V.str) (walks_list (EvP.varP (i := 1) rfl ⟨l1, rfl, hl1⟩)) ?_ ?_ (fun j x Pj hx hP => ?_) (fun Pj hP => ?_)
      · rw [List.length_map, List.length_map, (sortK_perm _).length_eq, List.length_map]
        omega
      · rw [List.length_map, List.length_map, List.length_map]
      · rw [List.getElem?_map, List.getElem?_map] at hx
        rw [List.getElem?_map] at hP
        obtain ⟨k, hk, rfl⟩ := Option.map_eq_some_iff.mp hP
        rw [hk] at hx
        obtain rfl := Option.some.inj hx
        have mk := (sortK_perm _).mem_iff.mp (List.mem_of_getElem? hk)
        have gk := ks_ k mk
        refine ⟨[some (.ref d), some (.ref l1), none, none, some (.str (textP k))], rfl, fun H2 e2 Q h => h, ?_⟩
        have g0 : EvP.Gives (tM1 rSp (tVar 4) (tC (.str " "))) [some (.ref d), some (.ref l1), none, none, some (.str (textP k))] H1 (lstV (k.map kV)) := fun H2 e2 Q h => by
          refine ⟨_, rfl, ⟨_, rfl⟩, textP k, " ", rfl, rfl, rfl, by rw [sizeLine_eq]; have := textP_len gk; omega, fun l hl => ?_⟩
          refine h _ _ (Ex.new hl) ⟨l, rfl, ?_⟩
          rw [upd_same, ← textP_ws gk]
        exact g_tupV g0
      · obtain ⟨k, _, rfl⟩ := List.mem_map.mp hP
        exact stays_tupV _
    intro v2 H2 e2 ⟨l2, ws2, ev2, hl2, _, al2⟩
    subst ev2
    have hd2 := e2 _ _ (e1 _ _ hd)
    refine' EvP.st_ret (P := lst H2 ((toldT r).map rowP)) ?h3 ?k3
    case h3 =>
      refine compP (xs := ws2) (walks_list (EvP.varP (i := 2) rfl ⟨l2, rfl, hl2⟩)) ?_ ?_ (fun j x Pj hx hP => ?_) (fun Pj hP => ?_)
      · rw [keys_len al2, (sortK_perm _).length_eq, List.length_map]
        omega
      · rw [keys_len al2, List.length_map, ← told_key, List.length_map]
      · rw [List.getElem?_map] at hP
        obtain ⟨t, ht, rfl⟩ := Option.map_eq_some_iff.mp hP
        obtain ⟨b, k, hk, rfl, hb⟩ := keys_get al2 hx
        have mt := List.mem_of_getElem? ht
        obtain ⟨_, _, lt⟩ := told_in dr.nod mt
        have ek : k = t.1 := by
          rw [← told_key, List.getElem?_map, ht] at hk
          exact (Option.some.inj hk).symm
        subst ek
        refine ⟨[some (.ref d), some (.ref l1), some (.ref l2), some (.ref b), none], rfl, fun H3 e3 Q h => h, ?_⟩
        refine EvP.tuple (EvP.cons (EvP.varP rfl ⟨b, rfl, hb⟩) (EvP.cons (fun H3 e3 Q h => go_look (r := r) (k := t.1) rfl rfl (.inl (e3 _ _ hd2)) (e3 _ _ hb) lt (h _ _ (Ex.refl _) rfl)) EvP.nil)) (by show 2 ≤ 1000; decide)
      · obtain ⟨t, _, rfl⟩ := List.mem_map.mp hP
        exact stays_rowP t
    intro v3 H3 e3 ⟨l3, ws3, ev3, hl3, _, al3⟩
    subst ev3
    exact q l3 ws3 H3 ((e1.trans e2).trans e3) hl3 al3
end
end Fi

set_option Elab.async false
set_option linter.all false
set_option maxRecDepth 100000
set_option maxHeartbeats 4000000
namespace Cm
open PySem PySem.Spec PyProof.Rows L2 EvP
def lstA (Ps : List PR) : PR := ⟨fun v H => ∃ a ws, v = .ref a ∧ H a = some (.lst ws) ∧ All2 H Ps ws, fun _ _ _ e ⟨a, ws, h1, h2, h3⟩ => ⟨a, ws, h1, e _ _ h2, h3.ex e⟩⟩
section
variable {K : PySem.W.Frag} {σ : L2.St} {H : Hp} {tl te : TE} {vs : List Nat} {g : TG}
/-- [e for target in a new list], place by place -/
theorem compQ {Ps0 Ps : List PR} (h : EvP.Gives tl σ H (lstA Ps0)) (hz : Ps0.length ≤ 1000) (hl : Ps.length = Ps0.length)
    (step : ∀ (j : Nat) (x : V) (P0 P : PR) (H2 : Hp), Ex H H2 → Ps0[j]? = some P0 → Ps[j]? = some P → P0.R x H2 → ∃ σ2 : L2.St, wipe σ2 vs = wipe σ vs ∧ (∀ H1, Ex H2 H1 → ∀ Q : L2.St → Hp → Prop, Q σ2 H1 → g x (wipe σ vs) H1 Q) ∧ EvP.Gives te σ2 H2 P) (st : ∀ P ∈ Ps, Stays P) :
    EvP.Gives (tLc (iList K tl) g tYes te vs) σ H (lst H Ps) := fun H1 e1 Q q =>
  h H1 e1 _ fun v H2 e2 ⟨a, ws, ev, ha, hs⟩ => by
    have z : EvP.Gives (tLc (iList K (tC v)) g tYes te vs) σ H2 (lst H2 Ps) := compP (xs := ws) (walks_list (fun H3 e3 Q k => k v H3 (Ex.refl H3) ⟨a, ev, e3 _ _ ha⟩)) (by rw [hs.length]; exact hz) (by rw [hs.length]; exact hl) (fun j x P hx hP => by
      have hj : j < Ps0.length := by
        rw [← hl]
        exact (List.getElem?_eq_some_iff.mp hP).1
      obtain ⟨y, hy, hr⟩ := hs.get (i := j) (P := Ps0[j]) (List.getElem?_eq_getElem hj)
      have exy : x = y := Option.some.inj (hx.symm.trans hy)
      subst exy
      exact step j x _ P H2 (e1.trans e2) (List.getElem?_eq_getElem hj) hP hr) st
    exact z H2 (Ex.refl H2) Q fun u H3 e3 ⟨D, zs, eu, hD, nD, hz⟩ => q u H3 (e2.trans e3) ⟨D, zs, eu, hD, (e1.trans e2).back nD, hz⟩
end
end Cm

set_option Elab.async false
set_option linter.all false
set_option maxRecDepth 100000
set_option maxHeartbeats 4000000
/-! _law_line: the law's own text of some amounts. -/
namespace Fi
open PySem PySem.NumText PySem.Spec PyProof.Rows L2 EvP Cm Fk DtE Tb XG Wd
open Dg hiding numT
theorem log_hi {n : Int} (h0 : 0 ≤ n) (h1 : n ≤ 10 ^ 29) : n.natAbs.log2 < 1920 := Nat.lt_of_lt_of_le (PySem.Flt.log2_lt_of (k := 100) (by decide) (by
  have : (10 : Int) ^ 29 < 2 ^ 100 := by decide
  omega)) (by decide)
theorem dl_hi {n : Int} (h0 : 0 ≤ n) (h1 : n ≤ 10 ^ 29) : (dl n.toNat).length ≤ 30 := dl_len_lt (k := 29) (by
  have : (10 : Int) ^ 29 < 10 ^ 30 := by decide
  show n.toNat < 10 ^ 30
  omega)
theorem DrawnF.small {r : TRow} (d : DrawnF r) : SmallF (toldT r) where
  key t ht := (d.key t (told_in d.nod ht).1).pairK
  lo t ht := d.lo t (told_in d.nod ht).1
  hi t ht := Nat.le_trans (dl_hi (d.lo t (told_in d.nod ht).1) (d.hi t (told_in d.nod ht).1)) (by decide)
  few := by
    have := told_len r
    have := d.few
    omega
theorem name_asc {x : Str} (h : nameB x = true) : ∀ c ∈ tl x, c < 128 := fun c hc => by
  have := name_low h c hc
  omega
theorem numT_asc {n : Int} (h : 0 ≤ n) : ∀ c ∈ tl (Fk.numT n), c < 128 := fun c hc => by
  have := dl_digits n.toNat c (by rw [← Dg.numT_cps h]; exact hc)
  omega
theorem strOk_asc {x : Str} (h : ∀ c ∈ tl x, c < 128) : PyData.strOk x = true := by
  unfold PyData.strOk
  rw [← Array.all_toList, List.all_eq_true]
  intro c hc
  have := h c hc
  simp
  omega
theorem wordK_asc {t : List Key × Int} (h : GoodP t.1) (lo : 0 ≤ t.2) : ∀ c ∈ tl (wordK t), c < 128 := by
  obtain ⟨a, x, e, ha, hx⟩ := h
  unfold wordK
  rw [show nmK 0 t.1 = a by rw [e]; rfl, show nmK 1 t.1 = x by rw [e]; rfl]
  intro c hc
  rw [tl_app, tl_app, tl_app, tl_app, tl_app] at hc
  simp only [List.mem_append] at hc
  have sp1 : ∀ c ∈ tl (" " : Str), c < 128 := by decide +kernel
  rcases hc with ((((hc | hc) | hc) | hc) | hc) | hc
  · exact absurd hc (by show ¬ c ∈ ([] : List Nat); simp)
  · exact name_asc ha c hc
  · exact sp1 c hc
  · exact name_asc hx c hc
  · exact sp1 c hc
  · exact numT_asc lo c hc
def rAddS : R2 := fun x y H Q => ∃ i j, x = .str i ∧ y = .str j ∧ i.length + j.length ≤ sizeLine ∧ Q (.str (i ++ j)) H
def rStrI : List V → Hp → VK → Prop := fun xs H Q => ∃ i : Int, xs = [.int i] ∧ i.natAbs.log2 < 1920 ∧ Q (.str (toString i)) H
abbrev sLine : Stmt := top 48
abbrev NLi : List Str := ["plain", "told", "pair", "many"]
theorem scLine : FnScope NLi ["plain"] (defScope sLine) := ⟨rfl, rfl, rfl, by decide +kernel, rfl, by decide +kernel, by decide +kernel⟩
def spLineF : Sp := fun vs H Q _ => ∃ (d : Addr) (r : TRow), vs = [.ref d] ∧ H d = some (.dT (tents r)) ∧ DrawnF r ∧ ∀ H', Ex H H' → Q (.str (lineF (toldT r))) H'
section
variable {P : Program} {w : World} {K : PySem.W.Frag} {mg : Str → Option Value} {base : Heap} {f fT : Addr} {fd fdT : FuncData}
theorem ok_lineF (F : Fun K "_law_line" "_law_line" sLine f fd) (hT : mg "str" = none) (G : FnOk P w K mg base CX0 1 fT fdT ["plain"] spTold) (b : Binds K fdT ["plain"] []) (gT : mg "_law_told" = some (.ref fT)) (kT : PySem.W.keepIn K (.ref fT) = true) : FnOk P w K mg base CX0 2 f fd ["plain"] spLineF := by
  have nd := scLine.nd
  refine F.ok scLine (fun vs H Q E h => ?_) (fun cdv A outer s H vs Q E hr h => ?_)
  · obtain ⟨d, r, rfl, _⟩ := h
    rfl
  · obtain ⟨d, r, rfl, hd, dr, q⟩ := h
    refine ⟨_, pss_cons (ps_setLc (i := 1) (own := [("pair", 2), ("many", 3)]) (g := gTup K 2 (gCons (gName 2) (gCons (gName 3) gNil))) (tt := tYes)
        (te := tOp rAddS (tOp rAddS (tOp rAddS (tOp rAddS (tOp (rIxT K) (tVar 2) (tC (.int 0))) (tC (.str " "))) (tOp (rIxT K) (tVar 2) (tC (.int 1)))) (tC (.str " "))) (tCB rStrI (tCons (tVar 3) tNil))) rfl nd rfl rfl (by rfl) (pi_list (pe_call G hr (by rfl) gT kT b .nil pass0 (pa_cons (pv 0) pa_nil))) (blkOk_by (N := NLi) (sc := defScope sLine) (by decide +kernel))
        (fun _ _ _ _ _ => by exact pg_tup rfl (pgs_cons (pg_name (i := 2) nd rfl (Or.inl rfl)) (pgs_cons (pg_name (i := 3) nd rfl (Or.inl rfl)) pgs_nil))) (fun _ _ _ _ _ => pts_nil)
        (fun _ _ _ _ _ => by exact pe_op op_add_str (pe_op op_add_str (pe_op op_add_str (pe_op op_add_str (pe_ix (r := rIxT K) ix_tup (pv 2) pe_int (fun _ _ => rfl)) pe_str) (pe_ix (r := rIxT K) ix_tup (pv 2) pe_int (fun _ _ => rfl))) pe_str) (pe_callTy (T := "str") call_str_int (by rfl) hT (by decide +kernel) (pa_cons (pv 3) pa_nil))))
      (pss_one (ps_ret (pe_ifExp (pt_cmpR (op_neD hr.units) (pv 1) (pe_lst pa_nil) (nomark _)) (pe_join pe_str (pv 1)) pe_str))), ?_⟩
    have sm := dr.small
    have tl9 := told_len r
    have few := dr.few
    generalize hR : toldT r = R at sm tl9 q
    have good : ∀ t ∈ R, GoodP t.1 := fun t ht => by
      rw [← hR] at ht
      exact dr.key t (told_in dr.nod ht).1
    have hi : ∀ t ∈ R, t.2 ≤ 10 ^ 29 := fun t ht => by
      rw [← hR] at ht
      exact dr.hi t (told_in dr.nod ht).1
    refine' EvP.st_set (P := lst H (R.map fun t => is (.str (wordK t)))) ?h1 ?k1
    case h1 =>
      refine compQ (Ps0 := R.map rowP) (fun H3 e3 Q2 k2 => ⟨_, rfl, d, r, rfl, e3 _ _ hd, dr, fun a2 ws2 H4 e4 ha2 hs2 => k2 _ _ e4 ⟨a2, ws2, rfl, ha2, by rw [← hR]; exact hs2⟩⟩) (by rw [List.length_map]; omega) (by rw [List.length_map, List.length_map]) (fun j x P0 P H2 e3 hP0 hP hx => ?_) (fun P hP => ?_)
      · rw [List.getElem?_map] at hP hP0
        obtain ⟨t, ht, rfl⟩ := Option.map_eq_some_iff.mp hP
        rw [ht] at hP0
        obtain rfl := Option.some.inj hP0
        obtain ⟨p, ws, ep, hp, al⟩ := hx
        subst ep
        cases al with
        | cons a1 al =>
          cases al with
          | cons a2 al =>
            cases al
            obtain ⟨b2, rfl, hb⟩ := a1
            obtain rfl := a2
            have mt := List.mem_of_getElem? ht
            obtain ⟨l1, l2, l3, l4, l5, l6, l7⟩ := wordK_len (sm.key t mt) (sm.lo t mt) (sm.hi t mt)
            have n0 := (nmK_ok (j := 0) (by decide) (sm.key t mt)).1
            have n1 := (nmK_ok (j := 1) (by decide) (sm.key t mt)).1
            have e0 : Str.empty ++ nmK 0 t.1 = nmK 0 t.1 := Str.empty_append _
            have ew : wordK t = nmK 0 t.1 ++ " " ++ nmK 1 t.1 ++ " " ++ Fk.numT t.2 := by
              unfold wordK
              rw [e0]
            rw [e0] at l1 l2 l3 l4
            rw [ew] at l5
            have big : ∀ {k}, k ≤ 10018 → k ≤ sizeLine := fun h => by
              rw [sizeLine_eq]
              omega
            rw [Str.length_append] at l2 l3 l4 l5
            refine ⟨[some (.ref d), none, some (.ref b2), some (.int t.2)], rfl, fun H3 e4 Q2 k2 => ⟨p, _, rfl, SqT.of (e4 _ _ hp), rfl, _, _, rfl, _, _, rfl, rfl, k2⟩, fun H3 e4 Q2 k2 => ?_⟩
            refine ⟨_, rfl, b2, _, _, _, rfl, rfl, SqT.of (e4 _ _ hb), atI_nat n0, nmK 0 t.1, " ", rfl, rfl, big (by omega), _, rfl, b2, _, _, _, rfl, rfl, SqT.of (e4 _ _ hb), atI_nat n1, nmK 0 t.1 ++ " ", nmK 1 t.1, rfl, rfl, big (by rw [Str.length_append]; omega), nmK 0 t.1 ++ " " ++ nmK 1 t.1, " ", rfl, rfl, big (by rw [Str.length_append, Str.length_append]; rw [Str.length_append] at l3 l4; omega), _, rfl, t.2, rfl, log_hi (sm.lo t mt) (hi t mt), nmK 0 t.1 ++ " " ++ nmK 1 t.1 ++ " ", Fk.numT t.2, rfl, rfl, big l5, k2 _ _ (Ex.refl H3) (by rw [ew]; rfl)⟩
      · obtain ⟨t, _, rfl⟩ := List.mem_map.mp hP
        exact stays_is _
    intro v1 H1 e1 ⟨D, zs, ev, hD, _, hz⟩
    subst ev
    have ezs : zs = (R.map wordK).map V.str := by
      rw [List.map_map]
      refine all2_is (H := H1) ?_
      rw [List.map_map]
      exact hz
    subst ezs
    have ok : ∀ x ∈ R.map wordK, PyData.strOk x = true := fun x hx => by
      obtain ⟨t, ht, rfl⟩ := List.mem_map.mp hx
      exact strOk_asc (wordK_asc (good t ht) (sm.lo t ht))
    refine ⟨_, rfl, by show 0 ≤ sizeLine; decide, fun l hl => ?_⟩
    have e2 := Ex.new (o := .lst []) hl
    refine ⟨.list ((R.map wordK).map PyData.str), .list [], .lst (SqL.of (e2 _ _ hD)) (dp_strs _), .lst (SqL.of upd_same) .nil, shaped_strsL ok, by decide +kernel, _, rfl, ?_⟩
    have hD2 := e2 _ _ hD
    have e12 := e1.trans e2
    generalize upd H1 l (.lst []) = H2 at hD2 e12 ⊢
    rw [eqv_strs_nil]
    cases R with
    | nil =>
      show (if (!true) = true then _ else _)
      rw [if_neg (by decide)]
      exact q _ e12
    | cons t0 tr =>
      show (if (!false) = true then _ else _)
      rw [if_pos (by decide)]
      refine ⟨⟨_, rfl⟩, _, rfl, " ; ", D, (t0 :: tr).map wordK, rfl, rfl, .inl (SqL.of hD2), ?_, q _ e12⟩
      have w := wordsK_len (R := t0 :: tr) fun t mt => (wordK_len (sm.key t mt) (sm.lo t mt) (sm.hi t mt)).2.2.2.2.1
      rw [List.length_map]
      show _ + (t0 :: tr).length * 3 ≤ 16777216
      omega
end
end Fi

set_option autoImplicit true
namespace Cm
open PySem PySem.Spec PyProof.Rows L2 EvP
/-- if t: ..; both ways -/
theorem st_ifB {tt : TT} {t u : TS} {D : Ends} {σ : L2.St} {H : Hp} {b : Bool} (h : Tst tt σ H b) (kT : b = true → ∀ H1, Ex H H1 → t { D with nx := u D } σ H1) (kF : b = false → ∀ H1, Ex H H1 → u D σ H1) : tSeq (tIfS tt t tNext) u D σ H := h H (Ex.refl H) _ fun H1 e => by
  cases b with
  | true => exact kT rfl H1 e
  | false => exact kF rfl H1 e
end Cm

set_option Elab.async false
set_option linter.all false
set_option maxRecDepth 100000
set_option maxHeartbeats 4000000
set_option autoImplicit false
/-! _law_bent. -/
namespace L2
open PySem PySem.Spec PyProof.Rows
/-- text times int -/
theorem op_mulS {X : Cx} : OpR X (binaryOp .Mult) (fun x y H Q => ∃ z n, x = .str z ∧ y = .int n ∧ MulOk z n ∧ Q (.str (Txt.mul z n)) H) := by
  intro pins s σ H x y v u Q I rx ry h
  obtain ⟨z, n, rfl, rfl, ok, q⟩ := h
  obtain ⟨t, rfl⟩ := rx
  obtain ⟨t', rfl⟩ := ry
  exact SB.mul ok fun t2 k => ⟨.str _, H, I.tok _, ⟨_, rfl⟩, q⟩
end L2
namespace Fi
open PySem PySem.NumText PySem.Spec PyProof.Rows L2 EvP Cm Fk DtE Tb XG Wd
open K17 (Pen But spPick spDraw)
open Dg hiding numT
/-- lengths of words, each with a blank -/
def tot (l : List Str) : Nat := (l.map fun x => x.length + 1).sum
theorem tot_app (a b : List Str) : tot (a ++ b) = tot a + tot b := by
  unfold tot
  rw [List.map_append, List.sum_append]
theorem join_len : ∀ l : List Str, l ≠ [] → (Txt.join sp l).length + 1 = tot l
  | [], h => absurd rfl h
  | [a], _ => rfl
  | a :: b :: r, _ => by
    have ih := join_len (b :: r) (by simp)
    rw [TL.join_eq] at ih ⊢
    show (a ++ sp ++ Str.join sp (b :: r)).length + 1 = (a.length + 1) + tot (b :: r)
    rw [Str.length_append, Str.length_append, ← ih]
    show a.length + 1 + _ + 1 = _
    omega
theorem tot_take (l : List Str) (k : Nat) : tot (l.take k) + tot (l.drop k) = tot l := by
  rw [← tot_app, List.take_append_drop]
theorem tot_ws (z : Str) : tot (ws z) = z.length + 1 := by
  rw [← join_len _ (ws_ne z), glue]
theorem sum_tot : ∀ l : List Str, (l.map (·.length)).sum + l.length = tot l
  | [] => rfl
  | a :: r => by
    have := sum_tot r
    unfold tot at this ⊢
    simp only [List.map_cons, List.sum_cons, List.length_cons]
    omega
/-- a line with at most n words, at most L signs -/
structure Bd (n L : Nat) (z : Str) : Prop where
  len : z.length ≤ L
  cnt : (ws z).length ≤ n
  asc : ∀ c ∈ tl z, c < 128
theorem Bd.ln {n L : Nat} {z : Str} (h : Bd n L z) (hn : n ≤ 200) (hL : L ≤ 9000) : LnF z := ⟨⟨Nat.le_trans h.len hL, Nat.le_trans h.cnt hn⟩, h.asc⟩
/-- how many words stand in these -/
def wsum (l : List Str) : Nat := (l.map fun p => (ws p).length).sum
theorem wsum_app (a b : List Str) : wsum (a ++ b) = wsum a + wsum b := by
  unfold wsum
  rw [List.map_append, List.sum_append]
theorem wsum_one : ∀ {l : List Str}, (∀ p ∈ l, 32 ∉ tl p) → wsum l = l.length
  | [], _ => rfl
  | a :: r, h => by
    have ih := wsum_one fun p hp => h p (.tail _ hp)
    have h1 : (ws a).length = 1 := by
      rw [ws_len, List.count_eq_zero_of_not_mem (h a (.head _))]
    unfold wsum at ih ⊢
    rw [List.map_cons, List.sum_cons, ih, h1, List.length_cons]
    omega
theorem ws_join : ∀ l : List Str, l ≠ [] → (ws (Txt.join sp l)).length = wsum l
  | [], h => absurd rfl h
  | [a], _ => by
    rw [TL.join_eq]
    show (ws a).length = (ws a).length + 0
    omega
  | a :: b :: r, _ => by
    have ih := ws_join (b :: r) (by simp)
    rw [TL.join_eq, ws_len] at ih
    rw [TL.join_eq, ws_len]
    show (tl (a ++ sp ++ Str.join sp (b :: r))).count 32 + 1 = (ws a).length + wsum (b :: r)
    rw [tl_app, tl_app, List.count_append, List.count_append, ← ih, ws_len]
    show _ + 1 + _ + 1 = _
    omega
theorem join_asc {l : List Str} (h : ∀ p ∈ l, ∀ c ∈ tl p, c < 128) : ∀ c ∈ tl (Txt.join sp l), c < 128 := by
  rw [TL.join_eq]
  induction l with
  | nil => intro c hc; exact absurd hc (by show ¬ c ∈ ([] : List Nat); simp)
  | cons a r ih =>
    cases r with
    | nil => exact h a (.head _)
    | cons b r =>
      intro c hc
      have hc : c ∈ (a ++ sp ++ Str.join sp (b :: r)).cps.toList := hc
      rw [app_cps, app_cps] at hc
      rcases List.mem_append.mp hc with hc | hc
      · rcases List.mem_append.mp hc with hc | hc
        · exact h a (.head _) c hc
        · have : c ∈ [32] := hc
          rw [List.mem_singleton] at this
          omega
      · exact ih (fun p hp => h p (.tail _ hp)) c hc
/-- words that are joined -/
theorem Bd.join {n L : Nat} {l : List Str} (hn : 1 ≤ n) (h1 : wsum l ≤ n) (h2 : tot l ≤ L) (h4 : ∀ p ∈ l, ∀ c ∈ tl p, c < 128) : Bd n L (Txt.join sp l) := by
  by_cases e : l = []
  · subst e
    refine ⟨Nat.zero_le _, ?_, join_asc h4⟩
    rw [ws_len]
    show 0 + 1 ≤ n
    omega
  · refine ⟨?_, ?_, join_asc h4⟩
    · have := join_len l e
      omega
    · rw [ws_join l e]
      exact h1
theorem cutV_mid (xs : List V) (j k : Nat) : cutV xs (some (j : Int)) (some (k : Int)) = (xs.drop j).take (k - j) := by
  show (xs.drop (HT.sIx xs.length 0 (some (j : Int)))).take (HT.sIx xs.length xs.length (some (k : Int)) - HT.sIx xs.length 0 (some (j : Int))) = _
  rw [HT.sIx_nat, HT.sIx_nat]
  by_cases c : j ≤ xs.length
  · rw [Nat.min_eq_left c]
    by_cases c2 : k ≤ xs.length
    · rw [Nat.min_eq_left c2]
    · rw [Nat.min_eq_right (by omega), List.take_of_length_le (by rw [List.length_drop]; omega), List.take_of_length_le (by rw [List.length_drop]; omega)]
  · rw [Nat.min_eq_right (show xs.length ≤ j by omega), List.drop_length, List.drop_eq_nil_of_le (by omega), List.take_nil, List.take_nil]
theorem cutV_pre (xs : List V) (k : Nat) : cutV xs none (some (k : Int)) = xs.take k := by
  show (xs.drop 0).take (HT.sIx xs.length xs.length (some (k : Int)) - 0) = _
  rw [HT.sIx_nat, List.drop_zero, Nat.sub_zero]
  by_cases c : k ≤ xs.length
  · rw [Nat.min_eq_left c]
  · rw [Nat.min_eq_right (by omega), List.take_of_length_le (Nat.le_refl _), List.take_of_length_le (by omega)]
theorem cutV_suf (xs : List V) (k : Nat) : cutV xs (some (k : Int)) none = xs.drop k := by
  show (xs.drop (HT.sIx xs.length 0 (some (k : Int)))).take (xs.length - HT.sIx xs.length 0 (some (k : Int))) = _
  rw [HT.sIx_nat, List.take_of_length_le (by rw [List.length_drop]; omega)]
  by_cases c : k ≤ xs.length
  · rw [Nat.min_eq_left c]
  · rw [Nat.min_eq_right (by omega), List.drop_length, List.drop_eq_nil_of_le (by omega)]
section
variable {K : PySem.W.Frag} {σ : L2.St} {H : Hp} {ta tb te : TE} {xs ys : List V}
theorem g_pre {k : Nat} (h : EvP.Gives ta σ H (lstV xs)) (i : EvP.Gives te σ H (is (.int (k : Nat)))) : EvP.Gives (tSl (rSlL K) ta tNoPart (tPart te)) σ H (lstV (xs.take k)) := fun H1 e Q q =>
  h H1 e _ fun v H2 e2 ⟨a, ev, ha⟩ => i H2 (e.trans e2) _ fun u H3 e3 eu => ⟨_, eu, a, xs, ev, SqL.of (e3 _ _ ha), fun p hp => q _ _ ((e2.trans e3).trans (Ex.new hp)) ⟨p, rfl, by rw [upd_same, cutV_pre xs k]⟩⟩
theorem g_suf {k : Nat} (h : EvP.Gives ta σ H (lstV xs)) (i : EvP.Gives te σ H (is (.int (k : Nat)))) : EvP.Gives (tSl (rSlL K) ta (tPart te) tNoPart) σ H (lstV (xs.drop k)) := fun H1 e Q q =>
  h H1 e _ fun v H2 e2 ⟨a, ev, ha⟩ => i H2 (e.trans e2) _ fun u H3 e3 eu => ⟨_, eu, a, xs, ev, SqL.of (e3 _ _ ha), fun p hp => q _ _ ((e2.trans e3).trans (Ex.new hp)) ⟨p, rfl, by rw [upd_same, cutV_suf xs k]⟩⟩
theorem g_mid {j k : Nat} (h : EvP.Gives ta σ H (lstV xs)) (i : EvP.Gives tb σ H (is (.int (j : Nat)))) (i2 : EvP.Gives te σ H (is (.int (k : Nat)))) : EvP.Gives (tSl (rSlL K) ta (tPart tb) (tPart te)) σ H (lstV ((xs.drop j).take (k - j))) := fun H1 e Q q =>
  h H1 e _ fun v H2 e2 ⟨a, ev, ha⟩ => i H2 (e.trans e2) _ fun u H3 e3 eu => ⟨_, eu, i2 H3 ((e.trans e2).trans e3) _ fun u2 H4 e4 eu2 => ⟨_, eu2, a, xs, ev, SqL.of (e4 _ _ (e3 _ _ ha)), fun p hp => q _ _ (((e2.trans e3).trans e4).trans (Ex.new hp)) ⟨p, rfl, by rw [upd_same, cutV_mid xs j k]⟩⟩⟩
theorem g_catV (h : EvP.Gives ta σ H (lstV xs)) (k : EvP.Gives tb σ H (lstV ys)) (hz : xs.length + ys.length ≤ sizeLine) : EvP.Gives (tOp rCat ta tb) σ H (lstV (xs ++ ys)) :=
  g_op h k fun x y H1 e ⟨a, ex, ha⟩ ⟨b, ey, hb⟩ Q q => ⟨a, b, xs, ys, ex, ey, ha, hb, hz, fun p hp => q _ _ (Ex.new hp) ⟨p, rfl, upd_same⟩⟩
theorem g_up {i : Nat} {m : Nat} (h : σ[i]? = some (some (.int (m : Nat)))) : EvP.Gives (tOp (rI0 fun i j => .int (i + j)) (tVar i) (tC (.int 1))) σ H (is (.int ((m + 1 : Nat) : Int))) := fun H1 e Q q => ⟨_, h, _, _, rfl, rfl, q _ _ (Ex.refl _) rfl⟩
end
def oddL : List Str := ["", "a", "b", "zzzz", "none", "self", "A", "0", "1", "01", "-1", "-0", Txt.mul "9" 90, "-", ";", "; a x 1", "1\n"]
theorem oddL_ok : ∀ o ∈ oddL, o.length ≤ 90 ∧ (ws o).length ≤ 4 ∧ ∀ c ∈ tl o, c < 128 := by decide +kernel
abbrev sBent : Stmt := Fk.top 53
def NB : List Str := ["pen", "line", "words", "spot", "way", "odd"]
theorem scBent : FnScope NB ["pen", "line"] (defScope sBent) := ⟨rfl, rfl, rfl, by decide +kernel, rfl, by decide +kernel, by decide +kernel⟩
def spBent : Sp := fun vs H Q _ => ∃ (p q : Addr) (ns : List Int) (s g : Int) (z : Str) (n L : Nat), vs = [.ref p, .str z] ∧ Pen H p q ns s g ∧ ns.length ≤ 63 ∧ 0 ≤ s ∧ s < 99000 ∧ Bd n L z ∧ n ≤ 90 ∧ L ≤ 4400 ∧
  ∀ (z' : Str) (s' g' : Int) (H' : Hp), Bd (n + 4) (2 * L + 100) z' → s ≤ s' → s' ≤ s + 4 → Pen H' p q ns s' g' → But p H H' → Q (.str z') H'
section
variable {P : Program} {w : World} {K : PySem.W.Frag} {mg : Str → Option Value} {base : Heap} {f fD fP : Addr} {fd fdD fdP : FuncData}
theorem ok_bent (F : Fun K "_law_bent" "_law_bent" sBent f fd) (T : Fk.Blt mg) (G : FnOk P w K mg base CX0 1 fD fdD ["pen", "many"] spDraw) (b : Binds K fdD ["pen", "many"] []) (gD : mg "_law_draw" = some (.ref fD)) (kD : PySem.W.keepIn K (.ref fD) = true)
    (GP : FnOk P w K mg base CX0 2 fP fdP ["pen", "some"] spPick) (bP : Binds K fdP ["pen", "some"] []) (gP : mg "_law_pick" = some (.ref fP)) (kP : PySem.W.keepIn K (.ref fP) = true) : FnOk P w K mg base CX0 3 f fd ["pen", "line"] spBent := by
  have nd := scBent.nd
  refine F.ok scBent (fun vs H Q E h => ?_) (fun cdv A outer s0 H vs Q E hr h => ?_)
  · obtain ⟨p, q, ns, s, g, z, n, L, rfl, _⟩ := h
    rfl
  · obtain ⟨p, q, ns, s, g, z, n, L, rfl, hP, hl, h0, h1, bd, hn, hL, k⟩ := h
    refine ⟨_, pss_cons (ps_set (i := 2) nd rfl (Or.inl rfl) (pe_split (pv 1) pe_str))
      (pss_cons (ps_par (i := 3) (j := 4) (by rfl) nd rfl rfl (by decide) rfl rfl (pa_cons (pe_call G (hr.mono (by decide)) (by rfl) gD kD b .nil pass0 (pa_cons (pv 0) (pa_cons (pe_op op_add (pe_callB call_len_seq (by rfl) T.len PySem.boot_len (pa_cons (pv 2) pa_nil)) pe_int) pa_nil))) (pa_cons (pe_call G (hr.mono (by decide)) (by rfl) gD kD b .nil pass0 (pa_cons (pv 0) (pa_cons pe_int pa_nil))) pa_nil)) (by rfl))
      (pss_cons (ps_set (i := 5) nd rfl (Or.inl rfl) (pe_call GP hr (by rfl) gP kP bP .nil pass0 (pa_cons (pv 0) (pa_cons (pe_lst (pa_cons pe_str (pa_cons pe_str (pa_cons pe_str (pa_cons pe_str (pa_cons pe_str (pa_cons pe_str (pa_cons pe_str (pa_cons pe_str (pa_cons pe_str (pa_cons pe_str (pa_cons pe_str (pa_cons pe_str (pa_cons (pe_op op_mulS pe_str pe_int) (pa_cons pe_str (pa_cons pe_str (pa_cons pe_str (pa_cons pe_str pa_nil)))))))))))))))))) pa_nil))))
      (pss_cons (ps_if (pt_cmpR op_eq (pv 4) pe_int (nomark _)) (pss_one (ps_ret (pe_join pe_str (pe_op op_cat (pe_slice sl_list (pv 2) po_none (po_some (pv 3))) (pe_slice sl_list (pv 2) (po_some (pe_op op_add (pv 3) pe_int)) po_none))))) pss_nil)
      (pss_cons (ps_if (pt_cmpR op_eq (pv 4) pe_int (nomark _)) (pss_one (ps_ret (pe_join pe_str (pe_op op_cat (pe_slice sl_list (pv 2) po_none (po_some (pe_op op_add (pv 3) pe_int))) (pe_slice sl_list (pv 2) (po_some (pv 3)) po_none))))) pss_nil)
      (pss_cons (ps_if (pt_cmpR op_eq (pv 4) pe_int (nomark _)) (pss_one (ps_ret (pe_slice sl_str (pv 1) po_none (po_some (pe_call G (hr.mono (by decide)) (by rfl) gD kD b .nil pass0 (pa_cons (pv 0) (pa_cons (pe_op op_add (pe_callB call_len_str (by rfl) T.len PySem.boot_len (pa_cons (pv 1) pa_nil)) pe_int) pa_nil))))))) pss_nil)
      (pss_cons (ps_if (PW.pt (pw_and (pt_cmpR op_eq (pv 4) pe_int (nomark _)) (pw_and1 (pt_cmpR op_gt (pe_callB call_len_seq (by rfl) T.len PySem.boot_len (pa_cons (pv 2) pa_nil)) pe_int (nomark _))))) (pss_one (ps_ret (pe_join pe_str (pe_op op_cat (pe_op op_cat (pe_slice sl_list (pv 2) (po_some pe_int) po_none) (pe_slice sl_list (pv 2) (po_some pe_int) (po_some pe_int))) (pe_slice sl_list (pv 2) po_none (po_some pe_int)))))) pss_nil)
      (pss_one (ps_ret (pe_join pe_str (pe_op op_cat (pe_op op_cat (pe_slice sl_list (pv 2) po_none (po_some (pv 3))) (pe_lst (pa_cons (pv 5) pa_nil))) (pe_slice sl_list (pv 2) (po_some (pe_op op_add (pv 3) (pe_callTy call_int1 (by rfl) T.int (by decide +kernel) (pa_cons (pe_cmpR op_eq (pv 4) pe_int (nomark _)) pa_nil)))) po_none))))))))))), ?_⟩
    refine ⟨_, rfl, ⟨_, rfl⟩, z, " ", rfl, rfl, rfl, by rw [sizeLine_eq]; have := bd.len; omega, fun l hl0 => ?_⟩
    have hW : upd H l (.lst ((ws z).map V.str)) l = some (.lst ((ws z).map V.str)) := upd_same
    have pl : p ≠ l := ne_of_none hP.p hl0
    have e1 := Ex.new (o := .lst ((ws z).map V.str)) hl0
    have hP1 : Pen (upd H l (.lst ((ws z).map V.str))) p q ns s g := ⟨e1 _ _ hP.p, e1 _ _ hP.q⟩
    generalize upd H l (.lst ((ws z).map V.str)) = H1 at e1 hW hP1 ⊢
    have len : (((ws z).map V.str).length : Nat) = (ws z).length := List.length_map ..
    have cnt := bd.cnt
    -- spot, way
    refine ⟨_, rfl, _, rfl, l, _, rfl, .inl (SqL.of hW), _, _, rfl, rfl, p, q, ns, s, g, _, rfl, hP1, hl, h0, by omega, by rw [len]; omega, by rw [len]; omega, fun spot s2 g2 H2 a0 a1 b0 b1 hP2 hB2 => ?_⟩
    rw [len] at a1
    refine ⟨_, rfl, p, q, ns, s2, g2, _, rfl, hP2, hl, by omega, by omega, by decide, by decide, fun way s3 g3 H3 c0 c1 d0 d1 hP3 hB3 => ?_⟩
    refine ⟨_, _, rfl, ?_⟩
    have hW3 := hB3 l _ (hB2 l _ hW pl.symm) pl.symm
    have b3 : But p H H3 := fun b o hb nb => hB3 b o (hB2 b o (e1 _ _ hb) nb) nb
    -- odd
    refine ⟨_, rfl, "9", 90, rfl, rfl, ⟨rfl, fun _ _ => by decide +kernel, fun _ _ => by decide +kernel⟩, by show 17 ≤ sizeLine; decide, fun l2 hl2 => ?_⟩
    have lp2 : l2 ≠ p := (ne_of_none hP3.p hl2).symm
    have lq2 : l2 ≠ q := (ne_of_none hP3.q hl2).symm
    have e3 := Ex.new (o := .lst (oddL.map V.str)) hl2
    refine ⟨p, q, ns, s3, g3, l2, oddL.map V.str, rfl, ⟨e3 _ _ hP3.p, e3 _ _ hP3.q⟩, hl, by omega, by omega, upd_same, lp2, by show 0 < 17; decide, by show 17 < 100000; decide, fun v s4 g4 H4 hv f0 f1 hP4 hB4 => ?_⟩
    obtain ⟨o, ho, rfl⟩ := List.mem_map.mp hv
    obtain ⟨o1, o2, o3⟩ := oddL_ok o ho
    have hW4 := hB4 l _ (e3 _ _ hW3) pl.symm
    have b4 : But p H H4 := fun b x hb nb => hB4 b x (e3 _ _ (b3 b x hb nb)) nb
    obtain ⟨S, rfl⟩ : ∃ S : Nat, spot = S := ⟨spot.toNat, by omega⟩
    have hS : S ≤ (ws z).length := by omega
    have tw := tot_ws z
    have tS := tot_take (ws z) S
    have tS1 := tot_take (ws z) (S + 1)
    have bl := bd.len
    have wm : ∀ p ∈ ws z, 32 ∉ tl p ∧ ∀ c ∈ tl p, c < 128 := fun p hp => ⟨(ws_mem hp).1, fun c hc => bd.asc c ((ws_mem hp).2.2 c hc)⟩
    have szl : (ws z).length ≤ sizeLine := by rw [sizeLine_eq]; omega
    -- what a join of two slices gives
    have done : ∀ (ys : List Str) (H5 : Hp), Ex H4 H5 → ys.length ≤ n + 1 → wsum ys ≤ n + 4 → tot ys ≤ 2 * L + 100 → (∀ p ∈ ys, ∀ c ∈ tl p, c < 128) → (ys.map (·.length)).sum + ys.length * 1 ≤ 16777216 ∧ Q (.str (Txt.join sp ys)) H5 := fun ys H5 e5 y1 y0 y2 y3 => by
      have st := sum_tot ys
      refine ⟨by omega, k _ s4 g4 H5 (Bd.join (by omega) y0 y2 y3) (by omega) (by omega) ⟨e5 _ _ hP4.p, e5 _ _ hP4.q⟩ fun b x hb nb => e5 _ _ (b4 b x hb nb)⟩
    have e1S : (((S : Nat) : Int) + 1) = ((S + 1 : Nat) : Int) := rfl
    have mapT : ∀ m, ((ws z).map V.str).take m = ((ws z).take m).map V.str := fun m => (List.map_take ..).symm
    have mapD : ∀ m, ((ws z).map V.str).drop m = ((ws z).drop m).map V.str := fun m => (List.map_drop ..).symm
    have wT : ∀ m, wsum ((ws z).take m) = ((ws z).take m).length := fun m => wsum_one fun p hp => (wm p (List.mem_of_mem_take hp)).1
    have wD : ∀ m, wsum ((ws z).drop m) = ((ws z).drop m).length := fun m => wsum_one fun p hp => (wm p (List.mem_of_mem_drop hp)).1
    -- if way == 0
    have gW : ∀ {σ : L2.St} {H5 : Hp}, Ex H4 H5 → σ[2]? = some (some (.ref l)) → EvP.Gives (tVar 2) σ H5 (lstV ((ws z).map V.str)) := fun e5 h => EvP.varP h ⟨l, rfl, e5 _ _ hW4⟩
    have lt : ∀ m, ((ws z).take m).length ≤ (ws z).length := fun m => by rw [List.length_take]; omega
    have ld : ∀ m, ((ws z).drop m).length ≤ (ws z).length := fun m => by rw [List.length_drop]; omega
    have fit : ∀ a b : List Str, a.length ≤ 200 → b.length ≤ 200 → (a.map V.str).length + (b.map V.str).length ≤ sizeLine := fun a b ha hb => by
      rw [List.length_map, List.length_map, sizeLine_eq]
      omega
    refine ⟨_, rfl, rfl, _, rfl, ?_⟩
    refine ite2 (fun cw => ?_) (fun cw0 => ?_)
    · refine st_retJoin (P := lstV (((ws z).take S ++ (ws z).drop (S + 1)).map V.str)) ?_ fun v H5 e5 ⟨r, ev, hr5⟩ => ?_
      · rw [List.map_append]
        refine g_catV ?_ ?_ (fit _ _ (by have := lt S; omega) (by have := ld (S + 1); omega))
        · rw [← mapT]
          exact g_pre (gW (Ex.refl _) rfl) (EvP.var rfl)
        · rw [← mapD]
          exact g_suf (gW (Ex.refl _) rfl) (g_up rfl)
      · subst ev
        obtain ⟨d1, d2⟩ := done ((ws z).take S ++ (ws z).drop (S + 1)) H5 e5 (by rw [List.length_append, List.length_take, List.length_drop]; omega) (by rw [wsum_app, wT, wD, List.length_take, List.length_drop]; omega) (by rw [tot_app]; omega) (fun p hp => by
          rcases List.mem_append.mp hp with hp | hp
          · exact (wm p (List.mem_of_mem_take hp)).2
          · exact (wm p (List.mem_of_mem_drop hp)).2)
        exact ⟨_, r, _, rfl, rfl, .inl (SqL.of hr5), d1, d2⟩
    refine ⟨_, rfl, rfl, _, rfl, ?_⟩
    refine ite2 (fun cw => ?_) (fun cw1 => ?_)
    · refine st_retJoin (P := lstV (((ws z).take (S + 1) ++ (ws z).drop S).map V.str)) ?_ fun v H5 e5 ⟨r, ev, hr5⟩ => ?_
      · rw [List.map_append]
        refine g_catV ?_ ?_ (fit _ _ (by have := lt (S + 1); omega) (by have := ld S; omega))
        · rw [← mapT]
          exact g_pre (gW (Ex.refl _) rfl) (g_up rfl)
        · rw [← mapD]
          exact g_suf (gW (Ex.refl _) rfl) (EvP.var rfl)
      · subst ev
        obtain ⟨d1, d2⟩ := done ((ws z).take (S + 1) ++ (ws z).drop S) H5 e5 (by rw [List.length_append, List.length_take, List.length_drop]; omega) (by rw [wsum_app, wT, wD, List.length_take, List.length_drop]; omega) (by rw [tot_app]; omega) (fun p hp => by
          rcases List.mem_append.mp hp with hp | hp
          · exact (wm p (List.mem_of_mem_take hp)).2
          · exact (wm p (List.mem_of_mem_drop hp)).2)
        exact ⟨_, r, _, rfl, rfl, .inl (SqL.of hr5), d1, d2⟩
    refine ⟨_, rfl, rfl, _, rfl, ?_⟩
    refine ite2 (fun cw => ?_) (fun cw2 => ?_)
    · have lz : z.length ≤ sizeLine := by rw [sizeLine_eq]; omega
      refine ⟨_, rfl, _, rfl, _, rfl, z, rfl, lz, _, _, rfl, rfl, p, q, ns, s4, g4, _, rfl, hP4, hl, by omega, by omega, by omega, by omega, fun j s5 g5 H5 i0 i1 j0 j1 hP5 hB5 => ?_⟩
      obtain ⟨J, rfl⟩ : ∃ J : Nat, j = J := ⟨j.toNat, by omega⟩
      have ct := cut_tl0 z J (by omega)
      rw [List.drop_zero] at ct
      refine ⟨_, rfl, z, rfl, lz, k _ s5 g5 H5 ⟨?_, ?_, fun c hc => ?_⟩ (by omega) (by omega) hP5 fun b x hb nb => hB5 b x (b4 b x hb nb) nb⟩
      · rw [← len_cps]
        show (tl _).length ≤ _
        rw [ct, List.length_take, len_cps]
        omega
      · rw [ws_len, ct]
        have := (List.take_sublist J (tl z)).count_le 32
        rw [ws_len] at cnt
        omega
      · rw [ct] at hc
        exact bd.asc c (List.mem_of_mem_take hc)
    dsimp only [tNext]
    refine st_ifB (b := decide (way = 3) && decide (4 < (ws z).length)) ?_ (fun cT H5 e5 => ?_) (fun cF H5 e5 => ?_)
    · intro H5 e5 Q5 q5
      refine ⟨_, rfl, rfl, _, rfl, ?_⟩
      by_cases w3 : way = 3
      · rw [decide_eq_true (congrArg V.int w3)]
        rw [decide_eq_true w3, Bool.true_and] at q5
        refine ⟨_, rfl, l, _, rfl, .inl (SqL.of (e5 _ _ hW4)), _, _, rfl, rfl, _, rfl, ?_⟩
        rw [len]
        have : decide ((4 : Int) < ((ws z).length : Nat)) = decide (4 < (ws z).length) := by
          rw [decide_eq_decide]
          omega
        rw [this]
        exact q5 _ (Ex.refl _)
      · rw [decide_eq_false (fun z => w3 (V.int.inj z))]
        rw [decide_eq_false w3, Bool.false_and] at q5
        exact q5 _ (Ex.refl _)
    · rw [Bool.and_eq_true, decide_eq_true_eq, decide_eq_true_eq] at cT
      obtain ⟨_, c4⟩ := cT
      have t3 := tot_take (ws z) 3
      have t34 := tot_take ((ws z).drop 3) 1
      rw [List.drop_drop, show 3 + 1 = 4 from rfl] at t34
      refine st_retJoin (P := lstV ((((ws z).drop 4 ++ ((ws z).drop 3).take (4 - 3)) ++ (ws z).take 3).map V.str)) ?_ fun v H6 e6 ⟨r, ev, hr6⟩ => ?_
      · rw [List.map_append]
        refine g_catV ?_ ?_ (fit _ _ (by rw [List.length_append, List.length_take]; have := ld 4; omega) (by have := lt 3; omega))
        · rw [List.map_append]
          refine g_catV ?_ ?_ (fit _ _ (by have := ld 4; omega) (by rw [List.length_take]; omega))
          · rw [← mapD]
            exact g_suf (k := 4) (gW e5 rfl) EvP.cst
          · rw [List.map_take, ← mapD]
            exact g_mid (j := 3) (k := 4) (gW e5 rfl) EvP.cst EvP.cst
        · rw [← mapT]
          exact g_pre (k := 3) (gW e5 rfl) EvP.cst
      · subst ev
        have in3 : ∀ p ∈ (((ws z).drop 4 ++ ((ws z).drop 3).take (4 - 3)) ++ (ws z).take 3), p ∈ ws z := fun p hp => by
          rcases List.mem_append.mp hp with hp | hp
          · rcases List.mem_append.mp hp with hp | hp
            · exact List.mem_of_mem_drop hp
            · exact List.mem_of_mem_drop (List.mem_of_mem_take hp)
          · exact List.mem_of_mem_take hp
        have l3 : (((ws z).drop 4 ++ ((ws z).drop 3).take (4 - 3)) ++ (ws z).take 3).length ≤ n + 1 := by
          rw [List.length_append, List.length_append, List.length_take, List.length_drop, List.length_take, List.length_drop]
          omega
        have w3 : wsum (((ws z).drop 4 ++ ((ws z).drop 3).take (4 - 3)) ++ (ws z).take 3) ≤ n + 4 := by
          rw [wsum_one fun p hp => (wm p (in3 p hp)).1]
          omega
        have o3 : tot (((ws z).drop 4 ++ ((ws z).drop 3).take (4 - 3)) ++ (ws z).take 3) ≤ 2 * L + 100 := by
          rw [tot_app, tot_app]
          show tot ((ws z).drop 4) + tot (((ws z).drop 3).take 1) + tot ((ws z).take 3) ≤ _
          omega
        obtain ⟨d1, d2⟩ := done _ H6 (e5.trans e6) l3 w3 o3 fun p hp => (wm p (in3 p hp)).2
        exact ⟨_, r, _, rfl, rfl, .inl (SqL.of hr6), d1, d2⟩
    · obtain ⟨B, hB⟩ : ∃ B : Nat, B ≤ 1 ∧ EvP.Gives (tOp (rI0 fun i j => .int (i + j)) (tVar 3) (tCB (fun xs H Q => (∃ i, xs = [.int i] ∧ Q (.int i) H) ∨ ∃ k, xs = [.bl k] ∧ Q (.int (if k then 1 else 0)) H) (tCons (tOp rEq (tVar 4) (tC (.int 4))) tNil))) [some (.ref p), some (.str z), some (.ref l), some (.int (S : Nat)), some (.int way), some (.str o)] H5 (is (.int ((S + B : Nat) : Int))) := by
        refine ⟨if way = 4 then 1 else 0, by split <;> omega, fun H6 e6 Q5 q5 => ⟨_, rfl, _, rfl, rfl, .inr ⟨_, rfl, _, _, rfl, rfl, q5 _ _ (Ex.refl _) ?_⟩⟩⟩
        show V.int _ = V.int _
        by_cases c : way = 4
        · subst c
          rfl
        · rw [if_neg c, decide_eq_false (fun y => c (V.int.inj y))]
          rfl
      obtain ⟨B1, gB⟩ := hB
      have tB := tot_take (ws z) (S + B)
      refine st_retJoin (P := lstV ((((ws z).take S ++ [o]) ++ (ws z).drop (S + B)).map V.str)) ?_ fun v H6 e6 ⟨r, ev, hr5⟩ => ?_
      · rw [List.map_append]
        refine g_catV ?_ ?_ (fit _ _ (by rw [List.length_append]; have := lt S; show _ + 1 ≤ 200; omega) (by have := ld (S + B); omega))
        · rw [List.map_append]
          refine g_catV ?_ ?_ (fit _ _ (by have := lt S; omega) (by show 1 ≤ 200; decide))
          · rw [← mapT]
            exact g_pre (gW e5 rfl) (EvP.var rfl)
          · exact Fk.Gives.imp (EvP.list (H0 := H5) (Ps := ([V.str o] : List V).map is) (Ex.refl _) (EvP.cons (EvP.var rfl) EvP.nil) (by show 1 ≤ 1000; decide)) fun v H h => lst_is h
        · rw [← mapD]
          exact g_suf (gW e5 rfl) gB
      · subst ev
        have to : tot [o] = o.length + 1 := rfl
        have wo : wsum [o] = (ws o).length := rfl
        obtain ⟨d1, d2⟩ := done (((ws z).take S ++ [o]) ++ (ws z).drop (S + B)) H6 (e5.trans e6) (by rw [List.length_append, List.length_append, List.length_take, List.length_drop]; show _ + 1 + _ ≤ _; omega) (by rw [wsum_app, wsum_app, wT, wD, wo, List.length_take, List.length_drop]; omega) (by rw [tot_app, tot_app, to]; omega) (fun p hp => by
          rcases List.mem_append.mp hp with hp | hp
          · rcases List.mem_append.mp hp with hp | hp
            · exact (wm p (List.mem_of_mem_take hp)).2
            · rw [List.mem_singleton.mp hp]
              exact o3
          · exact (wm p (List.mem_of_mem_drop hp)).2)
        exact ⟨_, r, _, rfl, rfl, .inl (SqL.of hr5), d1, d2⟩
end
end Fi

set_option Elab.async false
set_option linter.all false
set_option maxRecDepth 100000
set_option maxHeartbeats 4000000
/-! The truth of an own instance by its __len__. -/
namespace Own
open PySem PySem.Spec PyProof.Rows L2
section
variable {X : Cx} {C f : Addr} {fd : FuncData} {k : Nat} {ps : List Str} {sp : Sp}
def rTruOwn (C : Addr) (sp : Sp) : V → Hp → (Bool → Hp → Prop) → Prop := fun x H Q => Ins H x C ∧ sp [x] H (fun v H' => ∃ n : Nat, v = .int n ∧ n < 1000000 ∧ Q ((n : Int) != 0) H') E0
theorem tru_own (hb : PySem.W.findIn X.K (.ref C) "__bool__" = some none) (M : Mt X.prog X.w X.K X.mg X.base C "__len__" k ps sp f fd) (hr : Room (k + 1) X.A) : TruR X (rTruOwn C sp) := by
  intro pins s σ H x v Q I rx h
  obtain ⟨⟨a, dx, fs, rfl, ha⟩, h⟩ := h
  cases rx
  obtain ⟨ox, od, J⟩ := ins_at I ha
  unfold truthy
  refine wpAny_bind (m := callSpecial? (.ref a) (Str.ofString "__bool__")) (wpAny_bind (wpAny_bind (J.type.here ((PySem.W.looks_findIn I.kIn hb).here (wpAny_pure ?_)))))
  refine wpAny_bind (wpAny_bind (J.type.here ((PySem.W.looks_findIn I.kIn M.at_).here ?_)))
  show wpAny _ _ (runValue (.builtin "len" ⟨[.ref a], []⟩) >>= _) _ _ _
  refine wpAny_bind (wpAny_runValue (codeAny_builtin PySem.entry_len ?_))
  rw [Around.under_plainId PySem.plain_len _]
  unfold Builtin.«len»
  refine wpAny_bind (m := oneArg "len" _) (wpAny_pure ?_)
  refine wpAny_bind (m := callSpecial? (.ref a) (Str.ofString "__len__")) (PySem.W.special_fn I.kIn J M.at_ (beq_iff_eq.mp M.fn) (wpAny_mono (run_at M.ok M.b rfl hr.in1 I (.cons (show RelV (V.ref a) (Value.ref a) from rfl) .nil) h) (fun r s' z => ?_) fun _ _ z => z))
  obtain ⟨v', H', I', rv, n, rfl, hn, q⟩ := z
  obtain ⟨t, rfl⟩ := rv
  refine wpAny_bind (wpAny_holding (wpAny_pure ?_))
  refine wpAny_bind (wpAny_letGo ?_)
  show wpAny _ _ (if (n : Int) < 0 then _ else _) _ _ _
  rw [if_neg (by omega)]
  show wpAny _ _ (if (n : Int) ≥ 2 ^ 63 then _ else _) _ _ _
  rw [if_neg (by omega)]
  refine wpAny_bind (wpAny_mkInt (wpAny_pure ?_))
  exact wpAny_pure ⟨H', I'.tok _, q⟩
end
end Own

set_option Elab.async false
set_option linter.all false
set_option maxRecDepth 100000
set_option maxHeartbeats 4000000
/-! x != y of own instances, where the class has __eq__ and no __ne__. -/
namespace Own
open PySem PySem.Spec PySem.Calls PyProof.Rows PySem.W L2
section
variable {X : Cx} {C f : Addr} {fd : FuncData} {k : Nat} {ps : List Str} {sp : Sp}
theorem ifBound_b {M : Model} {A : Around} {E : Value → Shared → Prop} {s : Shared} {K : Frag} {x C : Addr} {ox : Obj} {od : Option Obj} {name : Str} {id : String} {args : List Value} {Q : Option Value → Shared → Prop} (kin : K.In s.heap) (J : InstAt s.heap x ox C od)
    (hs : findIn K (.ref C) name = some (some (.builtin id))) (hb : ∀ self, bindSpecial (.builtin id) self = pure (.builtin id, [self])) (h : wpAny M A (call (.builtin id) (.ref x :: args)) (fun v => Q (some v)) E s) : wpAny M A (callSpecialIfBound? (.ref x) name args) Q E s := by
  simp only [callSpecialIfBound?, bindSpecialIfBound?]
  refine wpAny_holding (wpAny_bind (wpAny_bind (wpAny_bind (J.type.here ((looks_findIn kin hs).here ?_)))))
  refine wpAny_bind (wpAny_askSetting (wpAny_ite ?_))
  have fin : wpAny M A (call (.builtin id) ([.ref x] ++ args) >>= fun v => pure (some v)) Q E s := wpAny_bind (wpAny_mono h (fun v s' y => wpAny_pure y) fun _ _ y => y)
  split
  · exact wpAny_bind ((Looks.of_pure (hb _)).here (wpAny_pure (by exact fin)))
  · exact wpAny_tryCatch (wpAny_bind ((Looks.of_pure (hb _)).here (wpAny_pure (by exact fin))))
/-- x != y: the class's __eq__, turned about -/
def rNeOwn (C : Addr) (sp : Sp) : R2 := fun x y H Q => Ins H x C ∧ Ins H y C ∧ sp [x, y] H (fun v H' => ∃ b, v = .bl b ∧ Q (.bl (!b)) H') E0
open Builtin in
theorem ne_own (M : Mt X.prog X.w X.K X.mg X.base C "__eq__" k ps sp f fd) (hne : findIn X.K (.ref C) "__ne__" = some (some (.builtin "object.__ne__"))) (hm : mroIn X.K C (.type "object") = some true) (hr : Room (k + 1) X.A) : OpR X (compareOp .NotEq) (rNeOwn C sp) := by
  intro pins s σ H x y v u Q I rx ry h
  obtain ⟨⟨a, dx, fs, rfl, ha⟩, ⟨b, dy, gs, rfl, hb⟩, h⟩ := h
  cases rx
  cases ry
  obtain ⟨ox, od, J⟩ := ins_at I ha
  obtain ⟨oy, oe, L⟩ := ins_at I hb
  have hu : X.A.units < cLine := by have := hr.un; omega
  have hu1 : X.A.in1.units < cLine := by have := hr.in1.un; omega
  show wpAny _ _ (richCompare .NotEq (.ref a) (.ref b)) _ _ _
  have one : wpAny (model X.prog X.w) X.A (tryCompare (.ref a) (cmpInfo .NotEq).2.1 (.ref b)) (fun r s' => ∃ v, r = some v ∧ EP X pins σ Q v s') X.xe s := by
    unfold tryCompare
    refine wpAny_bind (m := callSpecialIfBound? (.ref a) (Str.ofString "__ne__") [.ref b]) (ifBound_b I.kIn J hne PySem.F.slot_object_ne.bind ?_)
    refine wpAny_call (codeAny_call_builtin PySem.F.slot_object_ne.plain PySem.F.entry_object_ne (check_slot (i := "object.__ne__") (owner := "object") (n := "__ne__") (by decide +kernel) (by decide +kernel) (J.type.andThen (looks_mroIn I.kIn hm)) (PySem.F.args_object_ne_2 _ _) ?_))
    unfold Builtin.«object.__ne__»
    refine wpAny_bind (m := slotArgs "__ne__" 1 _) (wpAny_pure ?_)
    refine wpAny_bind (m := cRoomFor _ _) (wpAny_cRoomFor hu1 ?_)
    refine wpAny_bind (m := callSpecialIfBound? (.ref a) (Str.ofString "__eq__") [.ref b]) (ifBound_K I.kIn J M.at_ M.fn (wpAny_mono (run_at M.ok M.b rfl hr.in1 I (.cons (show RelV (V.ref a) (Value.ref a) from rfl) (.cons (show RelV (V.ref b) (Value.ref b) from rfl) .nil)) h) (fun r s' z => ?_) fun _ _ z => z))
    obtain ⟨v', H', I', rv, c, rfl, q⟩ := z
    obtain rfl : r = Value.bool c := rv
    refine wpAny_bind (wpAny_truthy_bool (wpAny_pure ?_))
    exact wpAny_pure ⟨_, rfl, .bl (!c), H', I', rfl, q⟩
  unfold richCompare
  simp only [oneThing_ref]
  refine wpAny_holding (wpAny_bind (wpAny_cRoomFor hu ?_))
  refine wpAny_bind (J.type.here (wpAny_bind (L.type.here ?_)))
  have same : ((Value.ref C) != (Value.ref C)) = false := by simp
  rw [same]
  refine wpAny_bind (wpAny_pure ?_)
  simp only [Bool.false_eq_true, if_false]
  refine wpAny_bind (wpAny_mono one (fun r s' z => ?_) fun _ _ e => e)
  obtain ⟨v, rfl, hq⟩ := z
  exact wpAny_pure hq
end
end Own

set_option Elab.async false
set_option linter.all false
set_option maxRecDepth 100000
set_option maxHeartbeats 4000000
/-! x * n and n * x, x an own instance and n an int. -/
namespace Own
open PySem PySem.Spec PySem.Calls PyProof.Rows PySem.W L2
open AutoSeq1 (wpAny_loadPart')
section
variable {X : Cx} {C f g : Addr} {fd : FuncData} {k : Nat} {ps : List Str} {sp : Sp}
/-- x op n -/
def rOwnI (C : Addr) (sp : Sp) : R2 := fun x y H Q => Ins H x C ∧ (∃ i, y = .int i) ∧ sp [x, y] H Q E0
theorem op_ownI {op : Operator} {fo ro rc : Option Value} (M : Mt X.prog X.w X.K X.mg X.base C (PySem.dunder op.info.2) k ps sp f fd) (first : selfFirst X.K C = true) (hr' : findIn X.K (.ref C) (dunderR op.info.2) = some rc) (hp : rc = none ∨ ∃ g : Addr, rc = some (.ref g))
    (h1 : findIn X.K (.type "int") (PySem.dunder op.info.2) = some fo) (h2 : findIn X.K (.type "int") (dunderR op.info.2) = some ro) (hsub : subIn X.K (.type "int") (.ref C) = some false) (hr : Room k X.A) : OpR X (binaryOp op) (rOwnI C sp) := by
  intro pins s σ H x y v u Q I rx ry h
  obtain ⟨⟨a, dx, fs, rfl, ha⟩, ⟨i, rfl⟩, h⟩ := h
  cases rx
  have ry' := ry
  obtain ⟨t, rfl⟩ := ry
  obtain ⟨ox, od, J⟩ := ins_at I ha
  obtain ⟨m, fr⟩ := I.fr
  exact ksp_binT fr I.ok.mod.kin J (rfl : typeOf (.int i t) = pure (.type "int")) first M.at_ M.fn hr' hp h1 h2 hsub (wpAny_mono (run_at M.ok M.b rfl hr I (.cons (show RelV (V.ref a) (Value.ref a) from rfl) (.cons ry' .nil)) h) (fun _ _ z => cmp_back z) fun _ _ z => z)
theorem int_mul_declines (b : Int) (u : Tok) (l D dx : Addr) :
    Meets (Builtin.«int.__mul__» ⟨[.int b u, .ref l], []⟩) (fun _ R s => s.heap.get? l = some (instObj D dx) ∧ R (.ok (.ret .notImplemented)) s) :=
  .of_wp fun prog w A R s h => by
    obtain ⟨hp, g, d, tk, os⟩ := s
    obtain ⟨hl, h⟩ := h
    wp_walk using wpAny_loadPart' hl, wpAny_load hl
    exact ⟨_, rfl, h⟩
/-- n * x, by the class's __rmul__ -/
def rROwn (C : Addr) (sp : Sp) : R2 := fun x y H Q => (∃ i, x = .int i) ∧ Ins H y C ∧ sp [y, x] H Q E0
theorem op_rmul (M : Mt X.prog X.w X.K X.mg X.base C "__rmul__" k ps sp f fd) (first : selfFirst X.K C = true) (hs : findIn X.K (.ref C) "__mul__" = some (some (.ref g))) (hsub : subIn X.K (.ref C) (.type "int") = some false) (hr : Room k X.A) : OpR X (binaryOp .Mult) (rROwn C sp) := by
  intro pins s σ H x y v u Q I rx ry h
  obtain ⟨⟨i, rfl⟩, ⟨a, dx, fs, rfl, ha⟩, h⟩ := h
  have rx' := rx
  obtain ⟨t, rfl⟩ := rx
  cases ry
  obtain ⟨mA, O, _⟩ := ins_get I.hok ha
  have ob := O.1
  obtain ⟨ox, od, J⟩ := ins_at I ha
  obtain ⟨cd, rest, hcd, hm⟩ := ksp_first first
  have kin := I.kIn
  have one : wpAny (model X.prog X.w) X.A (tryMethod (.ref a) "__rmul__" (.int i t)) (fun r s' => ∃ v, r = some v ∧ EP X pins σ Q v s') X.xe s :=
    ksp_try kin J M.at_ M.fn (wpAny_mono (run_at M.ok M.b rfl hr I (.cons (show RelV (V.ref a) (Value.ref a) from rfl) (.cons rx' .nil)) h) (fun _ _ z => cmp_back z) fun _ _ z => z)
  obtain ⟨hh, gg, d, tt, os⟩ := s
  have L1 : Looks (model X.prog X.w) hh (typeOf (.int i t)) (.type "int") := Looks.of_pure rfl
  have L2 : Looks (model X.prog X.w) hh (typeOf (.ref a)) (.ref C) := J.type
  have L3 : Looks (model X.prog X.w) hh (fillsNumberSlot (.type "int") "mul") true := Looks.of_pure F.fills_int_mul
  have L4 : Looks (model X.prog X.w) hh (fillsNumberSlot (.ref C) "mul") true := fills_K kin hcd hm hs
  have L5 : Looks (model X.prog X.w) hh (isSubtype (.ref C) (.type "int")) false := looks_subIn kin hsub
  have L7 : Looks (model X.prog X.w) hh (numberSlotInPython (.type "int") "mul") false := Looks.of_pure rfl
  have hne : (Value.type "int" == Value.ref C) = false := rfl
  have dec : wpAny (model X.prog X.w) X.A (tryMethod (.int i t) (dunder "mul") (.ref a)) (fun r s' => r = none ∧ s' = ⟨hh, gg, d, tt, os⟩) X.xe ⟨hh, gg, d, tt, os⟩ :=
    wpAny_tryMethod_declines (typeIs_int _ i t) F.slot_int_mul (call_meets F.slot_int_mul (typeIs_int _ i t) F.entry_int_mul (F.args_int_mul_2 _ _) (int_mul_declines i t a C dx) ⟨ob, rfl, rfl, rfl⟩)
  show wpAny _ _ (binaryOp .Mult (.int i t) (.ref a)) _ _ _
  simp only [binaryOp, Operator.info]
  refine wpAny_holding (wpAny_bind ?_)
  unfold binaryOp1
  refine wpAny_bind (L1.at (wpAny_bind (L2.at (wpAny_bind (L3.at ?_)))))
  simp only [hne, Bool.false_eq_true, if_false]
  ksp_lk
  refine wpAny_mono dec (fun r s' hr' => ?_) fun _ _ e => e
  obtain ⟨rfl, rfl⟩ := hr'
  ksp_lk
  refine wpAny_mono one (fun r s' hr' => ?_) fun _ _ e => e
  obtain ⟨v, rfl, hq⟩ := hr'
  ksp_lk
  exact hq
end
end Own

set_option Elab.async false
set_option linter.all false
set_option maxRecDepth 100000
set_option maxHeartbeats 4000000
/-! x op= y, where the class of x has no sign in place. -/
namespace Own
open PySem PySem.Spec PySem.Calls PyProof.Rows PySem.W L2
section
variable {X : Cx} {C f g : Addr} {fd : FuncData} {k : Nat} {ps : List Str} {sp : Sp}
/-- no class above has the sign in place -/
structure NoIn (K : Frag) (C : Addr) (nm : String) : Prop where
  cls : ∃ cd, clsIn K C = some cd ∧ cd.mro = [.ref C, .type "object"]
  here : findIn K (.ref C) (dunderI nm) = some none
  top : findIn K (.type "object") (dunderI nm) = some none
theorem no_inplace {M : Model} {h : Heap} {K : Frag} {nm : String} {add : Bool} (X : K.In h) (n : NoIn K C nm) : Looks M h (fillsInplaceSlot (.ref C) nm add) false := by
  intro A Q E s k q
  obtain ⟨cd, hc, hm⟩ := n.cls
  have Lm : Looks M h (mroOf (.ref C)) cd.mro := (looks_clsIn X hc).andThen (f := fun cd => pure cd.mro) .now
  have Lm' := Lm.keeps k
  obtain ⟨hh, g, d, tt, os⟩ := s
  have X' : K.In hh := X.keeps k
  have L1 : Looks M hh (typeLookup (.ref C) (dunderI nm)) none := looks_findIn X' n.here
  have L2 : Looks M hh (typeLookup (.type "object") (dunderI nm)) none := looks_findIn X' n.top
  unfold fillsInplaceSlot
  refine wpAny_bind (Lm'.at ?_)
  rw [hm, List.anyM_cons]
  refine wpAny_bind (wpAny_bind (L1.at ?_))
  refine wpAny_pure ?_
  simp only [Bool.false_eq_true, if_false]
  rw [List.anyM_cons]
  refine wpAny_bind (wpAny_bind (L2.at ?_))
  refine wpAny_pure ?_
  simp only [Bool.false_eq_true, if_false, List.anyM_nil]
  exact wpAny_pure q
def tIpOwn (C : Addr) (sp : Sp) : TIp := fun x y H Q => Ins H x C ∧ Ins H y C ∧ sp [x, y] H Q E0
theorem ip_own {op : Operator} (M : Mt X.prog X.w X.K X.mg X.base C (PySem.dunder op.info.2) k ps sp f fd) (first : selfFirst X.K C = true) (n : NoIn X.K C op.info.2) (hr : Room k X.A) : PIp X op (tIpOwn C sp) := by
  intro pins s σ H x y v u Q I rx ry h
  obtain ⟨⟨a, dx, fs, rfl, ha⟩, ⟨b, dy, gs, rfl, hb⟩, h⟩ := h
  cases rx
  cases ry
  obtain ⟨ox, od, J⟩ := ins_at I ha
  obtain ⟨oy, oe, L⟩ := ins_at I hb
  obtain ⟨cd, rest, hcd, hm⟩ := ksp_first first
  have kin := I.kIn
  have run := wpAny_mono (run_at M.ok M.b rfl hr I (.cons (show RelV (V.ref a) (Value.ref a) from rfl) (.cons (show RelV (V.ref b) (Value.ref b) from rfl) .nil)) h) (fun _ _ z => cmp_back z) fun _ _ z => z
  unfold inplaceOp
  refine wpAny_holding (wpAny_bind (J.type.here (wpAny_bind ((no_inplace kin n).here ?_))))
  simp only [Bool.false_eq_true, if_false]
  refine wpAny_bind ?_
  unfold binaryOp1
  refine wpAny_bind (J.type.here (wpAny_bind (L.type.here (wpAny_bind ((fills_K kin hcd hm M.at_).here ?_)))))
  simp only [beq_self_eq_true, if_true]
  refine wpAny_bind (wpAny_pure ?_)
  simp only [Bool.and_false, Bool.false_eq_true, if_false, Bool.false_and]
  refine wpAny_bind (wpAny_pure ?_)
  simp only [Bool.false_eq_true, if_false]
  refine wpAny_bind (m := tryMethod (.ref a) _ (.ref b)) ?_
  unfold tryMethod
  refine wpAny_bind (special_fn kin J M.at_ (beq_iff_eq.mp M.fn) (wpAny_mono run (fun v s' hv => ?_) fun _ _ e => e))
  cases v <;> first | exact hv.elim | exact wpAny_pure (wpAny_pure (wpAny_pure hv))
def tIpOwnI (C : Addr) (sp : Sp) : TIp := fun x y H Q => Ins H x C ∧ (∃ i, y = .int i) ∧ sp [x, y] H Q E0
theorem ip_ownI {op : Operator} {fo ro rc : Option Value} (M : Mt X.prog X.w X.K X.mg X.base C (PySem.dunder op.info.2) k ps sp f fd) (first : selfFirst X.K C = true) (n : NoIn X.K C op.info.2) (hr' : findIn X.K (.ref C) (dunderR op.info.2) = some rc) (hp : rc = none ∨ ∃ g : Addr, rc = some (.ref g))
    (h1 : findIn X.K (.type "int") (PySem.dunder op.info.2) = some fo) (h2 : findIn X.K (.type "int") (dunderR op.info.2) = some ro) (hsub : subIn X.K (.type "int") (.ref C) = some false) (hr : Room k X.A) : PIp X op (tIpOwnI C sp) := by
  intro pins s σ H x y v u Q I rx ry h
  obtain ⟨⟨a, dx, fs, rfl, ha⟩, ⟨i, rfl⟩, h⟩ := h
  cases rx
  have ry' := ry
  obtain ⟨t, rfl⟩ := ry
  obtain ⟨ox, od, J⟩ := ins_at I ha
  obtain ⟨cd, rest, hcd, hm⟩ := ksp_first first
  have kin := I.kIn
  have one : wpAny (model X.prog X.w) X.A (tryMethod (.ref a) (PySem.dunder op.info.2) (.int i t)) (fun r s' => ∃ v, r = some v ∧ EP X pins σ Q v s') X.xe s :=
    ksp_try kin J M.at_ M.fn (wpAny_mono (run_at M.ok M.b rfl hr I (.cons (show RelV (V.ref a) (Value.ref a) from rfl) (.cons ry' .nil)) h) (fun _ _ z => cmp_back z) fun _ _ z => z)
  have Lm : Looks (model X.prog X.w) s.heap (fillsInplaceSlot (.ref C) op.info.2 (op == .Add)) false := no_inplace kin n
  have at_ := M.at_
  obtain ⟨hh, gg, d, tt, os⟩ := s
  have L1 : Looks (model X.prog X.w) hh (typeOf (.ref a)) (.ref C) := J.type
  have L2 : Looks (model X.prog X.w) hh (typeOf (.int i t)) (.type "int") := Looks.of_pure rfl
  have L3 : Looks (model X.prog X.w) hh (fillsNumberSlot (.ref C) op.info.2) true := fills_K kin hcd hm at_
  have L4 : Looks (model X.prog X.w) hh (fillsNumberSlot (.type "int") op.info.2) ((fo.isSome && !isSeqSlot fo) || (ro.isSome && !isSeqSlot ro)) := ksp_fillsT kin h1 h2
  have L5 : Looks (model X.prog X.w) hh (isSubtype (.type "int") (.ref C)) false := looks_subIn kin hsub
  have L6 : Looks (model X.prog X.w) hh (numberSlotInPython (.ref C) op.info.2) true := ksp_inPy kin at_ hr' hp
  have L7 : Looks (model X.prog X.w) hh (numberSlotInPython (.type "int") op.info.2) false := Looks.of_pure rfl
  have L8 : Looks (model X.prog X.w) hh (typeLookup (.type "int") (dunderR op.info.2)) ro := looks_findIn kin h2
  generalize ((fo.isSome && !isSeqSlot fo) || (ro.isSome && !isSeqSlot ro)) = right at L4
  have hne : (Value.ref C == Value.type "int") = false := rfl
  unfold inplaceOp
  refine wpAny_holding (wpAny_bind (L1.at (wpAny_bind (Lm.at ?_))))
  simp only [Bool.false_eq_true, if_false]
  refine wpAny_bind ?_
  unfold binaryOp1
  refine wpAny_bind (L1.at (wpAny_bind (L2.at (wpAny_bind (L3.at ?_)))))
  simp only [hne, Bool.false_eq_true, if_false]
  cases right with
  | false =>
    ksp_lk
    refine wpAny_mono one (fun r s' hr' => ?_) fun _ _ e => e
    obtain ⟨v, rfl, hq⟩ := hr'
    ksp_lk
    exact hq
  | true =>
    ksp_lk
    refine wpAny_mono one (fun r s' hr' => ?_) fun _ _ e => e
    obtain ⟨v, rfl, hq⟩ := hr'
    ksp_lk
    exact hq
end
end Own

set_option Elab.async false
set_option linter.all false
set_option maxRecDepth 100000
set_option maxHeartbeats 4000000
/-! x op y, where the class's def may raise. -/
namespace Own
open PySem PySem.Spec PySem.Calls PyProof.Rows PySem.W L2
/-- as Mt, for a def that may raise -/
structure MtX (P : Program) (w : World) (K : PySem.W.Frag) (mg : Str → Option Value) (base : Heap) (C : Addr) (m : Str) (k : Nat) (ps : List Str) (sp : Sp) (f : Addr) (fd : FuncData) : Prop where
  at_ : PySem.W.findIn K (.ref C) m = some (some (.ref f))
  fn : PySem.W.isFn K (.ref f) = true
  ok : FnOk P w K mg base (L2.CX P w) k f fd ps sp
  b : Binds K fd ps []
section
variable {X : Cx} {pins : List (Addr × Obj)} {σ : L2.St} {H : Hp} {s : Shared} {C f : Addr} {fd : FuncData} {k : Nat} {ps : List Str} {sp : Sp} {E : XK}
theorem run_atX {vs : List V} {us : List Value} {Q : VK} (F : FnOk X.prog X.w X.K X.mg X.base (L2.CX X.prog X.w) k f fd ps sp) (b : Binds X.K fd ps []) (hr : Room k X.A) (hx : PassesAt (L2.CX X.prog X.w) X σ E) (I : Inv X pins σ H s) (r : Vals vs us) (h : sp vs H Q E) :
    wpAny (model X.prog X.w) X.A (call (.ref f) us) (EP X pins σ Q) X.xe s := run_fnS (E := fun _ => E) F hr b hx I r h
theorem pass_none (σ : L2.St) : PassesAt (L2.CX X.prog X.w) X σ E0 := fun _ _ _ _ _ I c => passL _ _ _ _ _ _ I c
/-- x op y: what the def lets out is E's business -/
def rOwnX (C : Addr) (sp : Sp) (E : XK) : R2 := fun x y H Q => Ins H x C ∧ Ins H y C ∧ sp [x, y] H Q E
theorem op_ownX {op : Operator} (M : MtX X.prog X.w X.K X.mg X.base C (PySem.dunder op.info.2) k ps sp f fd) (first : PySem.W.selfFirst X.K C = true) (hr : Room k X.A) (hx : ∀ σ, PassesAt (L2.CX X.prog X.w) X σ E) : OpR X (binaryOp op) (rOwnX C sp E) := by
  intro pins s σ H x y v u Q I rx ry h
  obtain ⟨⟨a, dx, fs, rfl, ha⟩, ⟨b, dy, gs, rfl, hb⟩, h⟩ := h
  cases rx
  cases ry
  obtain ⟨ox, od, J⟩ := ins_at I ha
  obtain ⟨oy, oe, L⟩ := ins_at I hb
  obtain ⟨m, fr⟩ := I.fr
  exact PySem.W.binop_K fr I.ok.mod.kin J L.type first M.at_ M.fn (wpAny_mono (run_atX M.ok M.b hr (hx σ) I (.cons (show RelV (V.ref a) (Value.ref a) from rfl) (.cons (show RelV (V.ref b) (Value.ref b) from rfl) .nil)) h) (fun _ _ z => cmp_back z) fun _ _ z => z)
theorem op_ownX0 {op : Operator} (M : MtX X.prog X.w X.K X.mg X.base C (PySem.dunder op.info.2) k ps sp f fd) (first : PySem.W.selfFirst X.K C = true) (hr : Room k X.A) : OpR X (binaryOp op) (rOwnX C sp E0) := op_ownX M first hr pass_none
/-- x op= y, without a sign in place -/
def tIpOwnX (C : Addr) (sp : Sp) (E : XK) : TIp := fun x y H Q => Ins H x C ∧ Ins H y C ∧ sp [x, y] H Q E
theorem ip_ownX {op : Operator} (M : MtX X.prog X.w X.K X.mg X.base C (PySem.dunder op.info.2) k ps sp f fd) (first : selfFirst X.K C = true) (n : NoIn X.K C op.info.2) (hr : Room k X.A) (hx : ∀ σ, PassesAt (L2.CX X.prog X.w) X σ E) : PIp X op (tIpOwnX C sp E) := by
  intro pins s σ H x y v u Q I rx ry h
  obtain ⟨⟨a, dx, fs, rfl, ha⟩, ⟨b, dy, gs, rfl, hb⟩, h⟩ := h
  cases rx
  cases ry
  obtain ⟨ox, od, J⟩ := ins_at I ha
  obtain ⟨oy, oe, L⟩ := ins_at I hb
  obtain ⟨cd, rest, hcd, hm⟩ := ksp_first first
  have kin := I.kIn
  have run := wpAny_mono (run_atX M.ok M.b hr (hx σ) I (.cons (show RelV (V.ref a) (Value.ref a) from rfl) (.cons (show RelV (V.ref b) (Value.ref b) from rfl) .nil)) h) (fun _ _ z => cmp_back z) fun _ _ z => z
  unfold inplaceOp
  refine wpAny_holding (wpAny_bind (J.type.here (wpAny_bind ((no_inplace kin n).here ?_))))
  simp only [Bool.false_eq_true, if_false]
  refine wpAny_bind ?_
  unfold binaryOp1
  refine wpAny_bind (J.type.here (wpAny_bind (L.type.here (wpAny_bind ((fills_K kin hcd hm M.at_).here ?_)))))
  simp only [beq_self_eq_true, if_true]
  refine wpAny_bind (wpAny_pure ?_)
  simp only [Bool.and_false, Bool.false_eq_true, if_false, Bool.false_and]
  refine wpAny_bind (wpAny_pure ?_)
  simp only [Bool.false_eq_true, if_false]
  refine wpAny_bind (m := tryMethod (.ref a) _ (.ref b)) ?_
  unfold tryMethod
  refine wpAny_bind (special_fn kin J M.at_ (beq_iff_eq.mp M.fn) (wpAny_mono run (fun v s' hv => ?_) fun _ _ e => e))
  cases v <;> first | exact hv.elim | exact wpAny_pure (wpAny_pure (wpAny_pure hv))
end
end Own

set_option Elab.async false
set_option linter.all false
set_option maxRecDepth 100000
set_option maxHeartbeats 4000000
/-! What is asked of a caught exception that a name keeps: isinstance, a field. -/
namespace L2
open PySem PySem.Spec PyProof.Rows
/-- at a: a caught exception of the class at C, with its fields -/
def KeptAt (H : Hp) (a C : Addr) (fs : List (Str × V)) : Prop := ∃ d, H a = some (ExK (.ref C) (some d) a) ∧ H d = some (.xd fs)
theorem KeptAt.ex {H H' : Hp} {a C : Addr} {fs : List (Str × V)} (e : ∀ b o, H b = some o → H' b = some o) (h : KeptAt H a C fs) : KeptAt H' a C fs := by
  obtain ⟨d, e1, e2⟩ := h
  exact ⟨d, e _ _ e1, e _ _ e2⟩
section
variable {X : Cx} {pins : List (Addr × Obj)} {σ : St} {H : Hp} {s : Shared}
theorem KeptAt.inst {a C : Addr} {fs : List (Str × V)} (I : Inv X pins σ H s) (h : KeptAt H a C fs) : ∃ (ox od : Obj) (mA : Str → Option Value), PySem.W.InstAt s.heap a ox C (some od) ∧ (∀ f, PySem.W.lookIn f od = some (mA f)) ∧ ∀ f, RelO (fs.lookup f) (mA f) := by
  obtain ⟨d, ea, ed⟩ := h
  obtain ⟨oe, vs, ho, hz, hd⟩ := exK_at I.hok ea
  have x : ObjOk X.prog X.w H s.heap d (.xd fs) := I.hok d _ ed
  obtain ⟨mA, hns, hr⟩ := x
  obtain ⟨od, hod, hl⟩ := lookIn_ns hns
  exact ⟨oe, od, mA, ⟨ho, hz.1, by unfold PySem.W.notCls; rw [hd] <;> rfl, by rw [hz.2]; exact hod⟩, hl, hr⟩
/-- isinstance(e, c), e caught -/
def rIsK (K : PySem.W.Frag) : List V → Hp → VK → Prop := fun xs H Q => ∃ (a D : Addr) (fs : List (Str × V)) (c : V) (cv : Value) (b : Bool), xs = [.ref a, c] ∧ KeptAt H a D fs ∧ ExcC K D ∧ ClsV c cv ∧ PySem.W.kitOne K (.ref D) cv = some b ∧ Q (.bl b) H
theorem call_isK : CallR X (.builtin "isinstance") (rIsK X.K) := by
  intro pins s σ H xs us Q I r h
  obtain ⟨a, D, fs, c, cv, b, rfl, ea, C, k, e, q⟩ := h
  obtain ⟨u1, u2, rfl, r1, r2⟩ := vals2 r
  have e2 := k.eq r2
  subst e2
  cases r1
  obtain ⟨ox, od, mA, J, _⟩ := ea.inst I
  exact PySem.W.kia_one (PySem.XK.Asked.kit (od := some od) (ox := ox) ⟨C.hg, C.hk, C.hs, (let ⟨cd, hc, _⟩ := PySem.W.any_some C.hd; ⟨cd, hc⟩), C.ha, C.hn, C.ht, C.hm⟩) I.kIn J e (fun z => nomatch z) fun tk => ⟨.bl b, H, I.kept (t' := tk) fun _ _ z => z, rfl, q⟩
/-- e.f, e caught -/
def tKf (K : PySem.W.Frag) (f : Str) (te : TE) : TE := fun σ H Q => te σ H fun x H1 => ∃ (a C : Addr) (fs : List (Str × V)) (v : V), x = .ref a ∧ XfC K C ∧ PySem.W.findIn K (.ref C) f = some none ∧ KeptAt H1 a C fs ∧ fs.lookup f = some v ∧ Q v H1
theorem pe_kf {e : Expr} {te : TE} {pos : Pos} {n : Str} (he : PE X e te) (hb : attributeBase e n X.env (eval e X.env) = eval e X.env := by rfl) :
    PE X (.Attribute e n pos) (tKf X.K n te) := by
  refine ⟨fun pins s σ H Q I h => ?_⟩
  refine attr_of hb (thn (he.run pins s σ H _ I h) fun u s1 hh => ?_)
  obtain ⟨x, H1, I1, rx, a, C, fs, v, rfl, T, hno, ea, l, q⟩ := hh
  obtain rfl : u = Value.ref a := rx
  obtain ⟨ox, od, mA, J, hl, hr⟩ := ea.inst I1
  obtain ⟨u, hu, ru⟩ := RelO.some_of (v := v) (o := mA n) (by rw [← l]; exact hr n)
  exact HandSPX.exc_get I1.kIn J T.ga T.gg T.exC (PySem.W.findObj_own T.hdC hno rfl (by rw [hl, hu])) (handed_of ru) ⟨v, H1, I1.tok _, ru, q⟩
end
end L2

set_option Elab.async false
set_option linter.all false
set_option maxRecDepth 100000
set_option maxHeartbeats 4000000
/-! A lambda is called while nothing is being shown: what is known of the guards goes along. -/
namespace LamG
open PySem PySem.Spec PyProof.Rows L2 LamX
section
variable {X : Cx} {pins : List (Addr × Obj)} {σ : L2.St} {H HZ : Hp} {s t : Shared} {f c : Addr} {pm cv : Value} {params : Arguments} {body : Expr} {scope : Scope} {k : Nat} {te : TE} {E : XK}
/-- the lambda that X made, as it lies at f -/
abbrev made (X : Cx) (params : Arguments) (body : Expr) (scope : Scope) (pm : Value) (c : Addr) (cv : Value) : Obj :=
  PySem.W.kla_obj "<lambda>" (X.env.qual ++ "<lambda>") params body scope (cloFrom X.env.cells scope.names []) pm c cv
/-- its call, around A -/
theorem lam_call {A : Around} {outer : List Env} {Q : VK} (I : Inv X pins σ H s) (L : LamS X.env.scope scope) (at_ : t.heap.get? f = some (made X params body scope pm c cv))
    (bind : bindArgs (PySem.W.kla_fn "<lambda>" (X.env.qual ++ "<lambda>") params body scope (cloFrom X.env.cells scope.names []) pm (.ref c) cv) ⟨[], []⟩ = pure [])
    (e0 : Env0 X.prog X.w X.K X.mg X.base A outer t HZ) (room : Room (k + 1) A) (lim : t.heap.NoLimit) (un : Un (frs X.stack) [] H HZ s.heap t.heap) (code : HZ c = some (CodeO c (X.env.qual ++ "<lambda>")))
    (walk : Room k (A.deeper (lamEnv X scope t.heap.objs.size f c)) → PE (lamCx X A outer t HZ E scope f c) body te) (h : te σ HZ Q) :
    codeAny (model X.prog X.w) A (.call (.ref f) ⟨[], []⟩) (CR (L2.CX X.prog X.w) outer X.prog X.w HZ t Q E) t := by
  obtain ⟨⟨oc, rec, tk, c1, c2, c3⟩, -, -⟩ := e0.hok c _ code
  refine PySem.W.kla_callFunE room.depth at_ rfl L.co L.gen rfl ⟨c, oc, rec, tk, rfl, c1, c2, c3⟩ ?_
  rw [bind]
  refine wpAny_pure (wpAny_newFunctionEnv (fun y hy => (L.own y hy).2) (fun y hy => absurd hy List.not_mem_nil) (fun h1 ns below => ⟨lim.fresh _ below, PySem.W.kla_codeExpr ?_⟩) L.kind)
  have stay : ∀ b o, t.heap.get? b = some o → h1.get? b = some o := fun b o e => below.extBut b o (Nat.ne_of_lt (Heap.lt_size e)) (Heap.get?_push_of_some _ e)
  have J := lam_start2 (E := E) (tk := t.toks + 0) (f := f) (c' := c) I L e0 room.hd un ns stay
  refine wpAny_mono ((walk (room.deeper _)).run [] _ _ HZ Q J h) (fun v s2 z => ?_) fun _ _ z => z
  obtain ⟨u, H2, J2, r, q⟩ := z
  exact ⟨u, H2, J2.os, J2.bare, J2.base, J2.hok, r, q⟩
/-- a(), in the def that was handed the lambda -/
theorem pe_actG {Eg : XK} {CXg : CXT} {Ng : List Str} {qg a : Str} {sg : Scope} {g : Addr} {cdg : Value} {i : Nat} {pn : List (Addr × Obj)} {xe : Value → Shared → Prop} {W : WX} {p1 p2 : Pos}
    (I : Inv X pins σ H s) (L : LamS X.env.scope scope) (at_ : s.heap.get? f = some (made X params body scope pm c cv)) (nf : H f = none) (nfr : f ∉ frs X.stack)
    (bind : bindArgs (PySem.W.kla_fn "<lambda>" (X.env.qual ++ "<lambda>") params body scope (cloFrom X.env.cells scope.names []) pm (.ref c) cv) ⟨[], []⟩ = pure [])
    (tk : Takes ((cxOf CXg X.prog X.w X.K X.mg X.base Ng qg sg g cdg X.A X.stack s H Eg).tr pn xe) W) (hW : ∀ cls d σ' H', E cls d H' → W cls d σ' H') (room : Room (k + 1) (X.A.deeper (envOfC qg sg s.heap.objs.size g cdg)))
    (walk : ∀ (A : Around) (outer : List Env) (t : Shared) (H : Hp), A.guards = X.A.guards → Room k (A.deeper (lamEnv X scope t.heap.objs.size f c)) → PE (lamCx X A outer t H E scope f c) body te)
    (hN : Ng[i]? = some a) (hv : Vis sg a) (d1 : (a == ("__debug__" : Str)) = false := by decide) (d2 : (a == ("__classdict__" : Str)) = false := by decide) :
    PE ((cxOf CXg X.prog X.w X.K X.mg X.base Ng qg sg g cdg X.A X.stack s H Eg).tr pn xe) (.Call (.Name a p1) [] [] p2)
      (fun σZ HZ Q => σZ[i]? = some (some (.ref f)) ∧ HZ c = some (CodeO c (X.env.qual ++ "<lambda>")) ∧ te σ HZ Q) := by
  refine ⟨fun pz sz σz Hz Q Iz h => wpAny_Call_Name_kw (thn ((pe_var (pos := p1) (i := i) hN hv d1 d2).run pz sz σz Hz (fun v H1 => v = .ref f ∧ H1 = Hz) Iz ⟨.ref f, h.1, rfl, rfl⟩) fun u s1 z => ?_)⟩
  obtain ⟨v, H1, I1, r1, rfl, rfl⟩ := z
  cases (show u = Value.ref f from r1)
  have at1 : s1.heap.get? f = some (made X params body scope pm c cv) := I1.base.keep f _ at_ nf nfr List.not_mem_nil
  refine PySem.W.callWith_F0 ⟨_, _, _, _, at1⟩ (wpAny_call (codeAny_mono (lam_call (X := X) (pins := pins) (σ := σ) (H := H) (s := s) (E := E) I L at1 bind I1.env0 room I1.nolimit I1.base h.2.1 (walk _ _ s1 H1 rfl) h.2.2) fun r s2 z => ?_))
  cases r with
  | error e => exact passes_call tk hW pz σz H1 s1 e s2 I1 z
  | ok fl => cases fl with
    | ret u => exact I1.after z
    | _ => exact (show False from z).elim
/-- the def that calls what it got, while nothing is being shown -/
def GivesG (X : Cx) (Ng : List Str) (x : Str) (sg : Scope) (g : Addr) (cdg : Value) (bg : List Stmt) (a q : Str) (TT : (XK → Hp → VK → Prop) → Hp → VK → Prop) : Prop :=
  ∀ (f c : Addr) (s : Shared) (H : Hp) (Q : VK) (tl : XK → Hp → VK → Prop),
    (∀ (W : WX) (pn : List (Addr × Obj)) (xe : Value → Shared → Prop) (E : XK) (p1 p2 : Pos), Takes ((cxOf C8.CX0 X.prog X.w X.K X.mg X.base Ng x sg g cdg X.A X.stack s H C8.E0).tr pn xe) W → (∀ cls d σ' H', E cls d H' → W cls d σ' H') →
      PE ((cxOf C8.CX0 X.prog X.w X.K X.mg X.base Ng x sg g cdg X.A X.stack s H C8.E0).tr pn xe) (.Call (.Name a p1) [] [] p2) (fun σZ HZ Q => σZ[0]? = some (some (.ref f)) ∧ HZ c = some (CodeO c q) ∧ tl E HZ Q)) →
    H c = some (CodeO c q) → TT tl H Q →
    ∃ t, PSs (cxOf C8.CX0 X.prog X.w X.K X.mg X.base Ng x sg g cdg X.A X.stack s H C8.E0).nox bg t ∧ t { nx := fun _ H' => Q .non H', rt := Q } (L2.start Ng [.ref f]) H
/-- x(lambda: body) -/
theorem pe_lamG {T : List (Addr × Str)} {TT : (XK → Hp → VK → Prop) → Hp → VK → Prop} {x a : Str} {g c P : Addr} {pg : Arguments} {bg : List Stmt} {sg : Scope} {dV kV doc pm cdv ct oc : Value} {an od : Option Addr} {osl : Array (Option Value)} {Ng : List Str}
    {t : XK → TE} {p lpos pos : Pos} (hg : Gl X x) (hm : X.mg x = some (.ref g)) (hk : PySem.W.keepIn X.K (.ref g) = true) (lk : X.K.lookup g = some ⟨oc, od, .func (PySem.W.fnOf x x pg bg sg dV kV doc pm an cdv ct), osl⟩) (hcg : PySem.W.codeIn X.K cdv x = true)
    (hb : L2.Binds X.K (PySem.W.fnOf x x pg bg sg dV kV doc pm an cdv ct) [a] []) (Sg : FnScope Ng [a] sg) (hNg : Ng[0]? = some a) (hva : Vis sg a) (hG : GivesG X Ng x sg g cdv bg a (X.env.qual ++ "<lambda>") TT) (TB : TabB X.base X.mg c P) (hcode : X.env.code = .ref c)
    (hmT : (P, X.env.qual ++ "<lambda>") ∈ T) (hu : ∀ p ∈ T, p.1 = P → p.2 = X.env.qual ++ "<lambda>") (hr : Room (k + 2) X.A) (L : LamS X.env.scope scope) (hdef : defaultsOf params X.env = ([], []))
    (hbind : ∀ (q : Str) (cl : List (Str × Addr)) (pm cv ctv : Value), bindArgs (PySem.W.kla_fn "<lambda>" q params body scope cl pm cv ctv) ⟨[], []⟩ = pure [])
    (walk : ∀ (A : Around) (outer : List Env) (s : Shared) (H : Hp) (E : XK) (f c : Addr), A.guards = X.A.guards → Room k (A.deeper (lamEnv X scope s.heap.objs.size f c)) → PE (lamCx X A outer s H E scope f c) body (t E))
    (hdb : (x == ("__debug__" : Str)) = false := by decide) (d1 : (a == ("__debug__" : Str)) = false := by decide) (d2 : (a == ("__classdict__" : Str)) = false := by decide) :
    PE X (.Call (.Name x p) [.Lambda params body scope lpos] [] pos) (tLam T TT t) := by
  refine ⟨fun pins s σ H Q I ⟨hT, h⟩ => wpAny_Call_Name_kw (ld_glob I hg hm (PySem.W.callWith_K (h₀ := X.base) I.ok.mod.kin hk ?_ (by rfl) (by rfl)) hdb)⟩
  show wpAny _ _ (spliced ((false, eval (.Lambda params body scope lpos) X.env) :: backTo pos (starEach [] X.env))) _ _ s
  refine Calls.spliced_cons (lam_make2 I TB hcode hmT hu hT hdef (L.has I.ok) fun f c' pm' ctv H1 s1 I1 eN T1 hf hfn hfr hco => Calls.spliced_nil ⟨I1.kIn, wpAny_call (codeAny_mono (R := CR C8.CX0 X.stack X.prog X.w H1 s1 Q C8.E0) ?_ fun r s2 z => ?_)⟩)
  · refine run_ofS (N := Ng) (ps := [a]) (us := [.ref f]) (vs := [.ref f]) lk hcg Sg hr I1.env0 (hb s1 [.ref f] I1.kIn rfl) (.cons rfl .nil) rfl fun room => ?_
    obtain ⟨t1, w1, q1⟩ := hG f c' s1 H1 Q (fun E H' Q' => t E σ H' Q') (fun W pn xe E p1 p2 tk hW => pe_actG (i := 0) I1 L hf hfn hfr (hbind _ _ _ _ _) tk hW room (fun A outer s H gd hr2 => walk A outer s H E f c' gd hr2) hNg hva d1 d2) hco (h H1 eN T1)
    exact ⟨t1, w1.nox, q1⟩
  · cases r with
    | error e => exact (show False from z).elim
    | ok fl => cases fl with
      | ret u => exact I1.after z
      | _ => exact (show False from z).elim
end
end LamG

set_option Elab.async false
set_option linter.all false
set_option maxRecDepth 100000
set_option maxHeartbeats 4000000
set_option autoImplicit false
/-! _law_heard(lambda: Filling.read(..)). -/
namespace Fi
open PySem PySem.NumText PySem.Spec PyProof.Rows L2 EvP Cm Fk DtE Tb XG Wd LamX LamG
open Dg hiding numT
def NH : List Str := ["ask", "caught", "found", "error"]
abbrev sHeard : Stmt := Fk.top 49
theorem scHeard : FnScope NH ["ask"] (defScope sHeard) := ⟨rfl, rfl, rfl, by decide +kernel, rfl, by decide +kernel, by decide +kernel⟩
abbrev badT (k : Nat) : List V := [.str "text", .int 0, .int (k : Nat)]
/-- what is heard of tl: the value in a new list; of a BadText its text, line and word -/
def THeard (CB : Addr) : (XK → Hp → VK → Prop) → Hp → VK → Prop := fun tl H Q => ∀ H0, Ex H H0 →
  tl (fun cls d H1 => ∃ k dd, cls = .ref CB ∧ d = some dd ∧ H1 dd = some (.xd (badF k)) ∧ ∀ t H2, Ex H1 H2 → H2 t = some (.tup (badT k)) → Q (.ref t) H2) H0
    (fun v H1 => ∀ p H2, Ex H1 H2 → H2 p = some (.lst [v]) → Q (.ref p) H2)
theorem st_none2 {K : PySem.W.Frag} {u : TS} {D : Ends} {σ : L2.St} {H : Hp} {i j : Nat} (k : ∀ H1, Ex H H1 → u D ((σ.set i (some .non)).set j (some .non)) H1) : tSeq (tAsg (tTup (tCons (tC .non) (tCons (tC .non) tNil))) (gTup K 2 (gCons (gName i) (gCons (gName j) gNil)))) u D σ H :=
  ⟨by show 2 ≤ sizeLine; decide, fun a ha => ⟨a, [.non, .non], rfl, SqT.of upd_same, rfl, .non, _, rfl, .non, _, rfl, rfl, k _ (Ex.new ha)⟩⟩
/-- a reading may be told of less -/
theorem pe_less {X : Cx} {e : Expr} {te : TE} (h : PE X e te) : PE X e (fun σ H Q => ∃ Q' : VK, (∀ v H1, Q' v H1 → Q v H1) ∧ te σ H Q') :=
  ⟨fun pins s σ H Q I ⟨Q', hq, ht⟩ => wpAny_mono (h.run pins s σ H Q' I ht) (fun _ _ ⟨v, H1, I1, r, q⟩ => ⟨v, H1, I1, r, hq v H1 q⟩) fun _ _ z => z⟩
/-- what the two classes of errors tell -/
structure BadX (K : PySem.W.Frag) (mg : Str → Option Value) (CF CB : Addr) : Prop where
  gF : mg "FillError" = some (.ref CF)
  gB : mg "BadText" = some (.ref CB)
  te : PySem.W.exmOne K (.ref CB) (.ref CF) = some true
  EC : ExcC K CB
  XC : XfC K CB
  n1 : PySem.W.findIn K (.ref CB) "line" = some none
  n2 : PySem.W.findIn K (.ref CB) "word" = some none
  kit : PySem.W.kitOne K (.ref CB) (.ref CB) = some true
theorem heard_gives {X : Cx} {q : Str} {g CF CB : Addr} {cdg : Value} (B : Fk.Blt X.mg) (L : BadX X.K X.mg CF CB) : GivesG X NH "_law_heard" (defScope sHeard) g cdg (defBody sHeard) "ask" q (THeard CB) := by
  have nd := scHeard.nd
  intro f c' s H Q tl act hc h
  refine ⟨_, pss_cons (ps_asg (pe_tup (pa_cons pe_non (pa_cons pe_non pa_nil))) (pg_tup rfl (pgs_cons (pg_name (i := 1) nd rfl (Or.inl rfl)) (pgs_cons (pg_name (i := 2) nd rfl (Or.inl rfl)) pgs_nil))))
    (pss_cons (ps_try_keep (c := .ref CF) (i := 3) (j := 1) (tb := fun W D σ H => ∃ Ech : XK, (∀ cls d (σ' : L2.St) H', σ'.length = 4 → Ech cls d H' → W cls d σ' H') ∧ ∃ Q' : VK, (∀ v H1, Q' v H1 → D.nx (σ.set 2 (some v)) H1) ∧ σ[0]? = some (some (.ref f)) ∧ H c' = some (CodeO c' q) ∧ tl Ech H Q')
      rfl rfl rfl nd rfl rfl ⟨by rfl, by decide, .inl L.gF⟩ (fun W pn xe tk => ?_) (fun a oe pn => pss_one (ps_set (i := 1) nd rfl (Or.inl rfl) (pv 3))))
    (pss_cons (ps_if (pt_cmp (pc_isN (pv 1))) (pss_one (ps_ret (pe_lst (pa_cons (pv 2) pa_nil)))) pss_nil)
    (pss_one (ps_ret (pe_ifExp (pt_val (pe_callB call_isK (by rfl) B.isi (by decide +kernel) (pa_cons (pv 1) (pa_cons (pe_glob (v := .ref CB) (by rfl) L.gB rfl) pa_nil)))) (pe_tup (pa_cons pe_str (pa_cons (pe_kf (pv 1)) (pa_cons (pe_kf (pv 1)) pa_nil)))) (pe_tup (pa_cons pe_str pa_nil))))))), ?_⟩
  · refine ⟨fun pins s' σ H' D I h' => ?_⟩
    obtain ⟨Ech, hW, h3⟩ := h'
    have hp := fun p1 p2 => act (fun cls d σ H => σ.length = 4 → W cls d σ H) pn xe Ech p1 p2 (fun u s' ⟨a, B, sI, pins, σ, H, cls, d, e, I, nb, up, sky, na, os, ag, w⟩ => tk u s' ⟨a, B, sI, pins, σ, H, cls, d, e, I, nb, up, sky, na, os, ag, w I.len⟩) (fun cls d σ' H' e l => hW cls d σ' H' l e)
    exact (pss_one (ps_set (i := 2) nd rfl (Or.inl rfl) (pe_less (hp _ _)))).run pins s' σ H' D I h3
  · refine st_none2 fun H1 e1 => ?_
    refine ⟨_, ?_, _, ?_, rfl, e1 _ _ hc, h H1 e1⟩
    · rintro cls d σ' H2 hl ⟨n, dd, rfl, rfl, hx, k⟩
      obtain ⟨s0, s1, s2, s3, rfl⟩ : ∃ s0 s1 s2 s3, σ' = [s0, s1, s2, s3] := by
        match σ', hl with
        | [s0, s1, s2, s3], _ => exact ⟨s0, s1, s2, s3, rfl⟩
      refine ⟨L.te, fun a na => ?_⟩
      have hk : ∀ H3, Ex (upd H2 a (ExK (.ref CB) (some dd) a)) H3 → KeptAt H3 a CB (badF n) := fun H3 e => ⟨dd, e _ _ upd_same, e _ _ (by rw [upd_ne (ne_of_none hx na)]; exact hx)⟩
      have tst : Tst (tB (tIsN (tVar 1))) [s0, some (V.ref a), s2, none] (upd H2 a (ExK (.ref CB) (some dd) a)) false := fun H3 e Q' q' => ⟨.ref a, rfl, false, by simp, q' H3 (Ex.refl H3)⟩
      dsimp only
      refine st_ifF (σ := [s0, some (V.ref a), s2, none]) tst fun H3 e => ?_
      refine ⟨.ref a, rfl, a, CB, _, .ref CB, .ref CB, true, rfl, hk H3 e, L.EC, .own CB, L.kit, true, rfl, ?_⟩
      dsimp only
      rw [if_pos rfl]
      refine ⟨.ref a, rfl, a, CB, _, .int 0, rfl, L.XC, L.n1, hk H3 e, rfl, .ref a, rfl, a, CB, _, .int (n : Nat), rfl, L.XC, L.n2, hk H3 e, rfl, (by show 3 ≤ sizeLine; decide), fun t ht => k t _ (((Ex.new na).trans e).trans (Ex.new ht)) upd_same⟩
    · intro v H2 k
      have tst : Tst (tB (tIsN (tVar 1))) [some (V.ref f), some .non, some v, none] H2 true := fun H3 e Q' q' => ⟨.non, rfl, true, by simp, q' H3 (Ex.refl H3)⟩
      dsimp only
      refine st_ifT (σ := [some (V.ref f), some .non, some v, none]) tst fun H3 e => ?_
      exact ⟨v, rfl, (by show 1 ≤ sizeLine; decide), fun p hp => k p _ (e.trans (Ex.new hp)) upd_same⟩
section
variable {CS C CB : Addr} {i : Nat}
/-- its reading, of a line -/
theorem st_heardRead {K : PySem.W.Frag} {T : List (Addr × Str)} {σ : L2.St} {H : Hp} {z : Str} {Q : VK} (hi : σ[i]? = some (some (.str z))) (hT : Tabs T H) (tz : TxF z)
    (kE : ∀ k, wrongF (ws z) = some k → ∀ t H1, ExtN H H1 → Tabs T H1 → H1 t = some (.tup (badT k)) → Q (.ref t) H1)
    (kQ : wrongF (ws z) = none → ∀ p H1 b, ExtN H H1 → Tabs T H1 → H1 p = some (.lst [.ref b]) → Amts (readF (ws z)) → FilAt CS C H1 b (toldT (readF (ws z))) (told (sumsR 0 (readF (ws z)))) (told (sumsR 1 (readF (ws z)))) → Q (.ref p) H1) :
    tLam T (THeard CB) (fun E => ClX.tCMeth C (spFRead K CS C CB) E (tC (.ref C)) (tCons (tVar i) tNil)) σ H Q := by
  refine ⟨hT, fun H1 e1 t1 H0 e0 => ?_⟩
  have eN : ExtN H H0 := e1.trans (ExtN.of e0)
  refine ⟨rfl, _, hi, .str z, rfl, .inl ⟨z, rfl, tz, fun hw b H' e am sb => ?_, fun k hw d H' e hd => ?_⟩⟩
  · exact fun p H2 e2 hp => kQ hw p H2 b (eN.trans (ExtN.of (e.trans e2))) (t1.ext ((e0.trans e).trans e2)) hp am (sb.mono e2)
  · exact ⟨k, d, rfl, rfl, hd, fun t H2 e2 ht => kE k hw t H2 (eN.trans (ExtN.of (e.trans e2))) (t1.ext ((e0.trans e).trans e2)) ht⟩
/-- .. of what is no text -/
theorem st_heardOdd {K : PySem.W.Frag} {T : List (Addr × Str)} {σ : L2.St} {H : Hp} {v : V} {t : Value} {Q : VK} (hi : σ[i]? = some (some v)) (hT : Tabs T H) (ty : ∀ H', ExtN H H' → TyX K H' v t) (kt : PySem.W.kitOne K t (.type "str") = some false)
    (kE : ∀ t H1, ExtN H H1 → Tabs T H1 → H1 t = some (.tup (badT 0)) → Q (.ref t) H1) :
    tLam T (THeard CB) (fun E => ClX.tCMeth C (spFRead K CS C CB) E (tC (.ref C)) (tCons (tVar i) tNil)) σ H Q := by
  refine ⟨hT, fun H1 e1 t1 H0 e0 => ?_⟩
  have eN : ExtN H H0 := e1.trans (ExtN.of e0)
  refine ⟨rfl, _, hi, v, rfl, .inr ⟨t, ty _ eN, fun H' e => ty _ (eN.trans (ExtN.of e)), kt, fun d H' e hd => ?_⟩⟩
  exact ⟨0, d, rfl, rfl, hd, fun t H2 e2 ht => kE t H2 (eN.trans (ExtN.of (e.trans e2))) (t1.ext ((e0.trans e).trans e2)) ht⟩
end
end Fi

set_option Elab.async false
set_option linter.all false
set_option maxRecDepth 100000
set_option maxHeartbeats 4000000
/-! defs of the top that keep promises. -/
namespace Fi
open PySem PySem.Spec PyProof.Rows L2 LamX
structure FunC (K : PySem.W.Frag) (x qual : Str) (st : Stmt) (f c : Addr) (fd : FuncData) : Prop where
  ex : ∃ (oc : Value) (od : Option Addr) (kV doc pm : Value) (an : Option Addr) (ct : Value) (osl : Array (Option Value)),
    fd = PySem.W.fnOf x qual (defArgs st) (defBody st) (defScope st) .none kV doc pm an (.ref c) ct ∧ K.lookup f = some ⟨oc, od, .func fd, osl⟩ ∧ PySem.W.codeIn K (.ref c) qual = true
  kp : PySem.W.keepIn K (.ref f) = true
theorem FunC.okG {P : Program} {w : World} {K : PySem.W.Frag} {mg : Str → Option Value} {base : Heap} {k : Nat} {f c : Addr} {ps : List Str} {sp : Sp} {x qual : Str} {st : Stmt} {fd : FuncData} {N : List Str} (F : FunC K x qual st f c fd) (S : FnScope N ps (defScope st)) (len : ∀ vs H Q E, sp vs H Q E → vs.length = ps.length)
    (walk : ∀ (A : Around) (outer : List Env) (s : Shared) (H : Hp) (vs : List V) (Q : VK) (E : XK), A.guards = some [] → Room k (A.deeper (envOfC qual (defScope st) s.heap.objs.size f (.ref c))) → sp vs H Q E →
      ∃ t, PSs (cxOf CX0 P w K mg base N qual (defScope st) f (.ref c) A outer s H E).nox (defBody st) t ∧ t { nx := fun _ H' => Q .non H', rt := Q } (start N vs) H) : XG.FnG P w K mg base CX0 (k + 1) f fd ps sp := by
  obtain ⟨oc, od, kV, doc, pm, an, ct, osl, rfl, lk, hcd⟩ := F.ex
  refine XG.fnG_of lk hcd S len fun A outer s H vs Q E gd room h => ?_
  obtain ⟨t, a, b⟩ := walk A outer s H vs Q E gd room h
  exact ⟨t, a.nox, b⟩
structure CalD (P : Program) (w : World) (K : PySem.W.Frag) (mg : Str → Option Value) (base : Heap) (k : Nat) (x : Str) (ps : List Str) (sp : Sp) where
  f : Addr
  fd : FuncData
  ok : FnOk P w K mg base CX0 k f fd ps sp
  b : Binds K fd ps []
  g : mg x = some (.ref f)
  kp : PySem.W.keepIn K (.ref f) = true
structure CalG (P : Program) (w : World) (K : PySem.W.Frag) (mg : Str → Option Value) (base : Heap) (k : Nat) (x : Str) (ps : List Str) (sp : Sp) where
  f : Addr
  fd : FuncData
  ok : XG.FnG P w K mg base CX0 k f fd ps sp
  len : ∀ vs H Q E, sp vs H Q E → vs.length = ps.length
  b : Binds K fd ps []
  g : mg x = some (.ref f)
  kp : PySem.W.keepIn K (.ref f) = true
structure CalX (P : Program) (w : World) (K : PySem.W.Frag) (mg : Str → Option Value) (base : Heap) (k : Nat) (x : Str) (ps : List Str) (sp : Sp) where
  f : Addr
  fd : FuncData
  ok : XG.FnG P w K mg base (L2.CX P w) k f fd ps sp
  len : ∀ vs H Q E, sp vs H Q E → vs.length = ps.length
  b : Binds K fd ps []
  g : mg x = some (.ref f)
  kp : PySem.W.keepIn K (.ref f) = true
end Fi

set_option Elab.async false
set_option linter.all false
set_option maxRecDepth 100000
set_option maxHeartbeats 4000000
/-! _law_right. -/
namespace Fi
open PySem PySem.NumText PySem.Spec PyProof.Rows L2 EvP Cm Fk DtE Tb XG Wd LamX LamG
open Dg hiding numT
/-- one by place and one by name -/
def kwA {α : Type} : List α → List α → List α
  | [a], [b] => [a, b]
  | _, _ => []
/-- the class Filling, as the law asks it -/
structure FilR (P : Program) (w : World) (K : PySem.W.Frag) (mg : Str → Option Value) (base : Heap) (CS C CB : Addr) where
  S : FilC K C
  SI : SideI K C
  gF : mg "Filling" = some (.ref C)
  fS : Addr
  dS : FuncData
  str : Own.Mt P w K mg base C "__str__" 2 ["self"] (spFStr CS C) fS dS
  mc : Value
  r : ClX.CRead K C mc
  pR : Addr
  fR : Addr
  dR : FuncData
  cR : ClX.CMet K C mc "read" pR fR
  read : XG.FnG P w K mg base (L2.CX P w) 10 fR dR ["cls", "text"] (spFRead K CS C CB)
  bR : Binds K dR ["cls", "text"] []
/-- the law's own _law_heard -/
structure HeardD (K : PySem.W.Frag) (mg : Str → Option Value) (CF CB : Addr) where
  X : BadX K mg CF CB
  g : Addr
  fd : FuncData
  F : Fun K "_law_heard" "_law_heard" sHeard g fd
  b : Binds K fd ["ask"] []
  gH : mg "_law_heard" = some (.ref g)
  kH : PySem.W.keepIn K (.ref g) = true
abbrev sRight : Stmt := Fk.top 54
def NR : List Str := ["line", "wrong", "heard"]
theorem scRight : FnScope NR ["line"] (defScope sRight) := ⟨rfl, rfl, rfl, by decide +kernel, rfl, by decide +kernel, by decide +kernel⟩
def nmR : Str := "_law_right.<locals>.<lambda>"
def spRight (T : List (Addr × Str)) : Sp := fun vs H Q _ => ∃ z : Str, vs = [.str z] ∧ LnF z ∧ Tabs T H ∧ ∀ H', ExtN H H' → Tabs T H' → Q (.bl true) H'
theorem spRight_len {T : List (Addr × Str)} : ∀ vs H Q E, spRight T vs H Q E → vs.length = (["line"] : List Str).length := fun vs H Q E h => by
  obtain ⟨z, rfl, _⟩ := h
  rfl
theorem bad_shaped (k : Nat) : SeqAt.shaped (.tuple [.str "text", .int 0, .int (k : Nat)]) = true := by
  show (PyData.canLayAll0 [PyData.str "text", .int 0, .int (k : Nat)] && decide (PyData.depthAll [PyData.str "text", .int 0, .int (k : Nat)] + 1 ≤ 64)) = true
  rw [Bool.and_eq_true]
  have h1 : PyData.strOk "text" = true := by decide +kernel
  refine ⟨by
    show (PyData.strOk "text" && (true && (true && true))) = true
    rw [h1]
    rfl, decide_eq_true ?_⟩
  show max 0 (max 0 (max 0 0)) + 1 ≤ 64
  omega
theorem bad_eqv (k : Nat) : PyData.eqv (.tuple [.str "text", .int 0, .int (k : Nat)]) (.tuple [.str "text", .int 0, .int (k : Nat)]) = true := SeqAt.eqv_refl _ (SeqAt.canLay_of_shaped (bad_shaped k))
theorem dp_bad {K : PySem.W.Frag} {H : Hp} (k : Nat) : DpAll K H (badT k) [.str "text", .int 0, .int (k : Nat)] := .cons (.str _) (.cons (.int _) (.cons (.int _) .nil))
theorem num_mem : ∀ {R : TRow} {t : List Key × Int}, t ∈ R → Fk.numT t.2 ∈ wordsF R
  | u :: r, t, h => by
    rcases List.mem_cons.mp h with rfl | h
    · exact .tail _ (.tail _ (.head _))
    · refine .tail _ (.tail _ (.tail _ ?_))
      have ih := num_mem h
      unfold semi
      split
      · rename_i e
        rw [List.isEmpty_iff.mp e] at ih
        exact ih
      · exact .tail _ ih
theorem ws_lineF {R : TRow} (h : UpF "" "" R) (e : R ≠ []) : ws (lineF R) = wordsF R := by
  have ne : wordsF R ≠ [] := by
    cases R with
    | nil => exact absurd rfl e
    | cons t r => exact fun z => nomatch z
  unfold lineF
  rw [if_neg (by simpa using e), lineK e]
  exact cut ne (wordsF_no h)
/-- what is read of a text may be written -/
theorem read_small {z : Str} (tz : TxF z) (hw : wrongF (ws z) = none) (am : Amts (readF (ws z))) : SmallF (readF (ws z)) := by
  obtain ⟨u, el⟩ := line_wrongF hw
  refine ⟨am.key, am.nn, fun t ht => ?_, by have := am.few; omega⟩
  have ne : readF (ws z) ≠ [] := List.ne_nil_of_mem ht
  have wm := num_mem ht
  rw [← ws_lineF u ne, el] at wm
  have al := (ws_mem wm).2.1
  have zl := tz.len
  rw [← Dg.numT_cps (am.nn t ht), len_cps]
  exact Nat.le_trans al (Nat.le_trans zl (by decide))
section
variable {P : Program} {w : World} {K : PySem.W.Frag} {mg : Str → Option Value} {base : Heap} {CS C CB CF f c PT : Addr} {fd : FuncData} {T : List (Addr × Str)}
theorem ok_rightF (F : FunC K "_law_right" "_law_right" sRight f c fd) (M : FilR P w K mg base CS C CB) (B : Fk.Blt mg) (hL : mg "list" = none) (HD : HeardD K mg CF CB) (DW : CalD P w K mg base 2 "_law_wrong" ["line"] spFWrong)
    (TB : TabB base mg c PT) (hmT : (PT, nmR) ∈ T) (hu : ∀ p ∈ T, p.1 = PT → p.2 = nmR) : XG.FnG P w K mg base CX0 13 f fd ["line"] (spRight T) := by
  have nd := scRight.nd
  obtain ⟨oc, od, kV, doc, pm, an, cdv, ct, osl, efd, lk, hcd⟩ := HD.F.ex
  have hb := HD.b
  rw [efd] at hb lk
  refine FunC.okG F scRight spRight_len fun A outer s H vs Q E gd hr h => ?_
  refine ⟨_, pss_cons (ps_par (i := 1) (j := 2) (by rfl) nd rfl rfl (by decide) rfl rfl (pa_cons (pe_call DW.ok (hr.mono (by decide)) (by rfl) DW.g DW.kp DW.b .nil pass0 (pa_cons (pv 0) pa_nil))
      (pa_cons (by exact LamG.pe_lamG (k := 10) (T := T) (TT := THeard CB) (t := fun E => ClX.tCMeth C (spFRead K CS C CB) E (tC (.ref C)) (tCons (tVar 0) tNil)) (by rfl) HD.gH HD.kH lk hcd hb scHeard rfl (.inl rfl) (heard_gives B HD.X) TB rfl (by exact hmT) (by exact hu) (hr.mono (by decide)) (lamS_by (by show lamSB (defScope sRight) _ = true; decide +kernel)) rfl (fun _ _ _ _ _ => rfl) (fun A outer s H E f c2 gd2 hr2 => XG.pe_cmGX (pe_glob (v := .ref C) (by rfl) M.gF rfl) M.r M.cR M.read spFRead_len (gd2.trans gd) hr2 M.bR (fun σ => passAt (W := fun cls d _ H => E cls d H) (takes_of rfl rfl rfl rfl) σ) (pa_cons (pe_var (i := 0) rfl (.inr (.inr rfl))) pa_nil))) pa_nil)) (by rfl))
    (pss_cons (ps_if (pt_cmpR op_notN (pv 1) pe_non (nomark _)) (pss_one (ps_ret (pe_cmpR (op_eqD hr.units) (pv 2) (pe_tup (pa_cons pe_str (pa_cons pe_int (pa_cons (pv 1) pa_nil)))) (nomark _)))) pss_nil)
    (pss_one (ps_ret (pe_and (pe_callB call_isi (by rfl) B.isi (by decide +kernel) (pa_cons (pv 2) (pa_cons (pe_bltn (v := .ty "list") (by rfl) hL (by decide +kernel) rfl) pa_nil)))
      (pe_and (pe_callB call_isi (by rfl) B.isi (by decide +kernel) (pa_cons (pe_ix ix_list (pv 2) pe_int (fun _ _ => rfl)) (pa_cons (pe_glob (v := .ref C) (by rfl) M.gF rfl) pa_nil)))
        (pe_one (pe_cmpR op_eq (pe_callTy (T := "str") (Own.call_strOwn M.str (hr.mono (by decide))) (by rfl) B.str (by decide +kernel) (pa_cons (pe_ix ix_list (pv 2) pe_int (fun _ _ => rfl)) pa_nil)) (pv 0) (nomark _)))))))), ?_⟩
  obtain ⟨z, rfl, hz, hT, q⟩ := h
  refine ⟨_, rfl, z, rfl, hz, fun H1 e1 => ?_⟩
  refine st_heardRead (σ := start NR [V.str z]) rfl (hT.ext e1) hz.toTxF (fun k hw t H2 e2 t2 ht => ?_) (fun hw p H2 b e2 t2 hp am sb => ?_)
  · refine ⟨_, _, rfl, ?_⟩
    rw [wrongFV_some hw]
    refine ⟨_, rfl, rfl, _, rfl, ?_⟩
    refine ⟨_, rfl, _, rfl, by show 3 ≤ sizeLine; decide, fun r nr => ?_⟩
    have er := Ex.new (o := .tup (badT k)) nr
    refine ⟨.tuple [.str "text", .int 0, .int (k : Nat)], .tuple [.str "text", .int 0, .int (k : Nat)], .tup (SqT.of (er _ _ ht)) (dp_bad k), .tup (SqT.of upd_same) (dp_bad k), bad_shaped k, bad_shaped k, ?_⟩
    rw [bad_eqv]
    exact q _ ((ExtN.of e1).trans (e2.trans (ExtN.of er))) (t2.ext er)
  · refine ⟨_, _, rfl, ?_⟩
    rw [wrongFV_none hw]
    refine ⟨_, rfl, rfl, _, rfl, ?_⟩
    obtain ⟨u, el⟩ := line_wrongF hw
    have sm := read_small hz.toTxF hw am
    rw [told_up_self u] at sb
    refine ⟨_, rfl, _, _, _, _, true, rfl, .ty _, .base (.lst hp), kit_ty (by decide +kernel), _, rfl, ?_⟩
    have sb' := sb
    obtain ⟨dx, p1, s1, u1, d1, r1, prs, rows, k1, _⟩ := sb
    refine ⟨_, rfl, p, _, 0, _, rfl, rfl, SqL.of hp, rfl, _, _, _, _, true, rfl, .own C, .base (.ins k1 M.S.cl M.SI.ha M.SI.hn M.SI.htk M.SI.hm), ?_, _, rfl, ?_⟩
    · unfold PySem.W.kitOne
      rw [if_pos (by simp)]
    refine ⟨_, rfl, p, _, 0, _, rfl, rfl, SqL.of hp, rfl, _, rfl, ⟨b, dx, _, rfl, k1⟩, b, readF (ws z), _, _, rfl, sb', sm, fun H8 e8 => ⟨_, rfl, _, rfl, rfl, ?_⟩⟩
    rw [el, decide_eq_true rfl]
    exact q _ ((ExtN.of e1).trans (e2.trans (ExtN.of e8))) (t2.ext e8)
end
end Fi

set_option Elab.async false
set_option linter.all false
set_option maxRecDepth 100000
set_option maxHeartbeats 4000000
/-! The claim's call: nothing is being shown, and defs hold lambdas. -/
namespace XT
open PySem PySem.Spec PyProof.Rows L2 LamX
def eTab : Obj := { cls := .none, data := .fields #[] }
/-- what is tracked when the call begins: perhaps the script at a, and the tables -/
structure Begun (K : PySem.W.Frag) (cs : List (Addr × Addr)) (a : Addr) (ns : List Int) (H : Hp) : Prop where
  tb : ∀ p ∈ cs, H p.2 = some (.tbl #[])
  all : ∀ b, H b = none ∨ (∃ p ∈ cs, b = p.2) ∨ (b = a ∧ ∃ o xs, H b = some (.frz o (.lst xs)))
  off : ∀ b, H b ≠ none → K.lookup b = none
  seq : SqL K H a (ns.map V.int)
section
variable {P : Program} {w : World} {K : PySem.W.Frag} {mg mb : Str → Option Value} {k : Nat} {f a : Addr} {sp : Sp} {fd : FuncData} {x : Str} {s₁ : Shared} {vs : List Value} {ns : List Int} {cs : List (Addr × Addr)} {H : Hp}
/-- what stands at b is no list, no empty table: it is not tracked -/
theorem Begun.un (B : Begun K cs a ns H) (ht : ∀ p ∈ cs, s₁.heap.get? p.2 = some eTab) (ha : s₁.heap.get? a = some { cls := .type "list", data := .seq vs.toArray }) {b : Addr} {o : Obj} (e : s₁.heap.get? b = some o) (n1 : ∀ us n, o.data ≠ .seq us n) (n2 : o.data ≠ .fields #[]) : H b = none := by
  rcases B.all b with z | ⟨p, hp, rfl⟩ | ⟨rfl, _⟩
  · exact z
  · rw [ht p hp] at e
    cases e
    exact absurd rfl n2
  · rw [ha] at e
    cases e
    exact absurd rfl (n1 _ _)
theorem Begun.nss (B : Begun K cs a ns H) (ht : ∀ p ∈ cs, s₁.heap.get? p.2 = some eTab) (ha : s₁.heap.get? a = some { cls := .type "list", data := .seq vs.toArray }) {b : Addr} {m : Str → Option Value} : s₁.heap.Ns b m → (hidT s₁.heap H).Ns b m := fun ⟨o, es, ep, e, d, r⟩ =>
  ⟨o, es, ep, hidT_get e (B.un ht ha e (fun us n z => by rw [d] at z; cases z) (fun z => by rw [d] at z; cases z)), d, r⟩
theorem Begun.kin (B : Begun K cs a ns H) (kin : K.In s₁.heap) : K.In (hidT s₁.heap H) := fun b o e => hidT_get (kin b o e) (by
  cases q : H b with
  | none => rfl
  | some u =>
    have z := B.off b (by rw [q]; exact fun w => nomatch w)
    rw [z] at e
    cases e)
theorem Begun.tabB (B : Begun K cs a ns H) (ht : ∀ p ∈ cs, s₁.heap.get? p.2 = some eTab) (ha : s₁.heap.get? a = some { cls := .type "list", data := .seq vs.toArray }) (hns : s₁.heap.Ns mainGlobals mg) (hc : ∀ p ∈ cs, PySem.W.CodeHd s₁.heap p.1 p.2)
    (hbm : ∃ (bm : Addr) (ob : Obj), mg "__builtins__" = some (.ref bm) ∧ bm ≠ builtinsNs ∧ s₁.heap.get? bm = some ob ∧ ob.cls = .type "module" ∧ ob.dict = some builtinsNs ∧ ob.data = .plain) : ∀ p ∈ cs, TabB (hidT s₁.heap H) mg p.1 p.2 := fun p hp => by
  obtain ⟨og, eg, pg, hg, dg, _⟩ := hns
  have tp := ht p hp
  refine ⟨?_, ?_, fun z => ?_⟩
  · obtain ⟨o, us, file, tf, flags, tg, inF, text, tt, e1, r1, r2, r3, r4⟩ := hc p hp
    refine ⟨o, us, file, tf, flags, tg, inF, text, tt, hidT_get e1 (B.un ht ha e1 (fun us n z => ?_) fun z => ?_), r1, r2, r3, r4⟩
    · rw [r2] at z
      cases z
    · rw [r2] at z
      cases z
      simp at r3
  · obtain ⟨bm, ob, b1, b2, b3, b4, b5, b6⟩ := hbm
    refine ⟨bm, ob, b1, b2, fun q => ?_, fun q => ?_, hidT_get b3 (B.un ht ha b3 (fun us n z => ?_) fun z => ?_), b4, b5, b6⟩
    · rw [q, hg] at b3
      cases b3
      rw [dg] at b6
      cases b6
    · rw [q, tp] at b3
      cases b3
      cases b6
    · rw [b6] at z
      cases z
    · rw [b6] at z
      cases z
  · rw [z, tp] at hg
    cases hg
    cases dg
theorem run_begun (B : Begun K cs a ns H) (kin : K.In s₁.heap) (hns : s₁.heap.Ns mainGlobals mg) (hb : s₁.heap.Ns builtinsNs mb) (hbb : ∀ x : Str, x ≠ "__name__" → mb x = bootBuiltins x) (lim : s₁.heap.NoLimit) (gens : s₁.gens = #[])
    (ht : ∀ p ∈ cs, s₁.heap.get? p.2 = some eTab) (hc : ∀ p ∈ cs, PySem.W.CodeHd s₁.heap p.1 p.2) (hbm : ∃ (bm : Addr) (ob : Obj), mg "__builtins__" = some (.ref bm) ∧ bm ≠ builtinsNs ∧ s₁.heap.get? bm = some ob ∧ ob.cls = .type "module" ∧ ob.dict = some builtinsNs ∧ ob.data = .plain)
    (ha : s₁.heap.get? a = some { cls := .type "list", data := .seq vs.toArray }) (room : Room k callerA) (hok : HOk P w H s₁.heap)
    (F : ∀ base : Heap, K.In base → base.Ns mainGlobals mg → (∀ p ∈ cs, TabB base mg p.1 p.2) → XG.FnG P w K mg base CX0 k f fd [x] sp) (bind : ∀ (s : Shared) (u : Value), BindsTo s fd ⟨[u], []⟩ [(x, u)])
    (h : sp [.ref a] H (fun v _ => v = .bl true) fun _ _ _ => False) :
    codeAny (model P w) callerA (.call (.ref f) ⟨[.ref a], []⟩) (fun r s' => r = .ok (.ret (.bool true)) ∧ OldK s₁.heap s'.heap ∧ s'.os = s₁.os ∧ AllBare s'.gens) s₁ := by
  have kinI := B.kin kin
  obtain ⟨mc, lim1, lim2⟩ := lim
  have e0 : Env0 P w K mg (hidT s₁.heap H) callerA [] s₁ H := {
    frames := rfl
    mod := ⟨kinI, B.nss ht ha hns, ⟨mb, B.nss ht ha hb, hbb⟩, mc, B.nss ht ha lim1, lim2⟩
    bs := fun b o e => of_hidT e
    bsz := Nat.le_of_eq (hidT_size _ _)
    funs := trivial
    frf := fun b z => absurd (show b ∈ ([] : List Addr) from z) List.not_mem_nil
    hok := hok
    bare := .of_eq gens }
  have run := F _ kinI (B.nss ht ha hns) (B.tabB ht ha hns hc hbm) callerA [] s₁ H ⟨[.ref a], []⟩ [.ref a] [.ref a] _ _ rfl room e0 (bind s₁ (.ref a)) (.cons rfl .nil) h
  refine codeAny_mono run fun r s' z => ?_
  rcases r with e | (u | _ | _ | _)
  all_goals first | exact (show False from z).elim | skip
  obtain ⟨v, H', os, bare, un, hok', rv, q⟩ := z
  obtain rfl : v = .bl true := q
  cases (show _ = Value.bool true from rv)
  have grow : ∀ p ∈ cs, ∃ more : Array Value, s'.heap.get? p.2 = some { cls := .none, data := .fields more } := fun p hp => by
    obtain ⟨more, z⟩ := un.tbls p.2 #[] (B.tb p hp)
    exact ⟨_, hok' p.2 _ z⟩
  have stay : ∀ b o, (¬ ∃ p ∈ cs, b = p.2) → s₁.heap.get? b = some o → s'.heap.get? b = some o := fun b o no e => by
    cases q : H b with
    | none => exact un.keep b o e q (fun z => List.not_mem_nil (show b ∈ ([] : List Addr) from z)) List.not_mem_nil
    | some t =>
      rcases B.all b with z | z | ⟨_, ob, xs, z⟩
      · rw [q] at z
        cases z
      · exact absurd z no
      · have before := (hok b _ z).1
        rw [e] at before
        cases before
        exact (hok' b _ (un.frzs b _ _ z)).1
  refine ⟨rfl, ⟨fun b o e => ?_, fun b o e => ?_⟩, os, bare⟩
  · by_cases hm : ∃ p ∈ cs, b = p.2
    · obtain ⟨p, hp, rfl⟩ := hm
      obtain ⟨more, g⟩ := grow p hp
      have tp := ht p hp
      have e' := e
      rw [tp] at e'
      cases e'
      exact .inr (.inl ⟨((hc p hp).tab tp).isCodeTable, rfl, #[], more, rfl, by rw [Array.empty_append]; exact g⟩)
    · exact .inl (stay b o hm e)
  · by_cases hm : ∃ p ∈ cs, b = p.2
    · obtain ⟨p, hp, rfl⟩ := hm
      obtain ⟨more, g⟩ := grow p hp
      exact ⟨_, g⟩
    · exact ⟨o, stay b o hm e⟩
end
/-- what is known of the law's promise at the head's heap -/
def AtG (l : PySem.W.OpenLaw) (w : World) (K : PySem.W.Frag) (k n : Nat) (x : Str) (mg : Str → Option Value) (fa : Addr) (h : Heap) : Prop :=
  ∃ (fd : FuncData) (cs : List (Addr × Addr)) (sp : Sp), (∀ p ∈ cs, h.get? p.2 = some eTab) ∧ (∀ p ∈ cs, K.lookup p.2 = none) ∧ (∀ p ∈ cs, PySem.W.CodeHd h p.1 p.2) ∧ (∀ (s : Shared) (u : Value), BindsTo s fd ⟨[u], []⟩ [(x, u)]) ∧
    (∀ (H : Hp) (a : Addr) (ns : List Int), ns.length ≤ n → (∀ p ∈ cs, H p.2 = some (.tbl #[])) → SqL K H a (ns.map V.int) → sp [.ref a] H (fun v _ => v = .bl true) fun _ _ _ => False) ∧
    ∀ base : Heap, K.In base → base.Ns mainGlobals mg → (∀ p ∈ cs, TabB base mg p.1 p.2) → XG.FnG l.prog w K mg base CX0 k fa fd [x] sp
theorem walk_tabs {l : PySem.W.OpenLaw} {n k : Nat} {q : Program} {loose : List Str} {XP : (Str → Option Value) → Heap → Prop} {YP : World → Heap → Prop} {d : DefRec} {K : Params → PySem.W.Frag} {x : Str} (xs : List Str)
    (hn : l.most = some n) (hn2 : n ≤ sizeLine) (hdf : d.params.defaults = []) (room : Room k callerA) (hrec : ∀ y ∈ xs, ((recsOf q).any fun e => e.name == y) = true) (hY : ∀ (w : World) (h : Heap), YP w h → (K w.params).In h)
    (F : ∀ (w : World) (mg : Str → Option Value) (fa : Addr) (h : Heap), YP w h → (K w.params).In h → h.Ns mainGlobals mg → mg d.name = some (.ref fa) → (∀ y ∈ xs, ∀ fy, mg y = some (.ref fy) → OwnTab (K w.params) fy h) → AtG l w (K w.params) k n x mg fa h) :
    PySem.W.WalkO q loose XP YP l.row.toRowW d [] (fun f vs => PySem.call f vs) := by
  refine Att.attach_call hn hdf fun w s₀ s₁ mg mb fa o pm cd doc a vs ns G Y _ _ _ hmg obj hints short gens => ?_
  have kin := hY w _ Y
  have own : ∀ y ∈ xs, ∀ fy, mg y = some (.ref fy) → OwnTab (K w.params) fy s₁.heap := fun y hy fy hfy c P o1 fd1 e dd vs1 sl k1 k2 k3 k4 k5 => by
    obtain ⟨r, hm, hn1⟩ := List.any_eq_true.mp (hrec y hy)
    have hn2 : r.name = y := beq_iff_eq.mp hn1
    obtain ⟨a', o', fd', c', P', h1, h2, h3, h4, h5, ⟨oc, vc, g1, _, g3, g4⟩, hP⟩ := G.T.tab r hm
    rw [hn2, hfy] at h1
    cases h1
    have y1 := kin _ _ k1
    rw [y1] at h2
    cases h2
    rw [k2] at h3
    cases h3
    rw [k3] at h4
    cases h4
    have y2 := kin _ _ k4
    rw [y2] at g1
    cases g1
    cases g3
    rw [k5] at g4
    cases g4
    exact hP
  obtain ⟨fd, cs, sp, ht, off, hc, bind, hsp, hF⟩ := F w mg fa _ Y kin G.T.g hmg own
  have rv := vals_ints hints
  have lz : (ns.map V.int).length ≤ sizeLine := by rw [List.length_map]; exact Nat.le_trans short hn2
  have go : ∀ {H : Hp}, Begun (K w.params) cs a ns H → HOk l.prog w H s₁.heap → _ := fun {H} B hok =>
    run_begun (x := x) B kin G.T.g G.T.b G.T.builtins G.T.nolimit gens ht hc G.T.bmain obj room hok hF bind (hsp H a ns short B.tb B.seq)
  have aT : ¬ ∃ p ∈ cs, a = p.2 := fun ⟨p, hp, z⟩ => by
    have e := ht p hp
    rw [← z, obj] at e
    exact absurd (congrArg Obj.data (Option.some.inj e)) (fun z => nomatch (show Data.seq vs.toArray _ = Data.fields #[] from z))
  classical
  let Ht : Hp := fun b => if ∃ p ∈ cs, b = p.2 then some (.tbl #[]) else none
  have atT : ∀ p ∈ cs, Ht p.2 = some (.tbl #[]) := fun p hp => if_pos ⟨p, hp, rfl⟩
  cases hk : (K w.params).lookup a with
  | some u =>
    have e := kin a u hk
    rw [obj] at e
    cases e
    refine go (H := Ht) ⟨atT, fun b => ?_, fun b z => ?_, .inr ⟨_, vs.toArray, _, hk, rfl, rfl, rfl, by rw [List.size_toArray, hints.length]; exact Nat.le_trans short hn2, by simpa using rv⟩⟩ fun b t z => ?_
    · by_cases hb : ∃ p ∈ cs, b = p.2
      · exact .inr (.inl hb)
      · exact .inl (if_neg hb)
    · by_cases hb : ∃ p ∈ cs, b = p.2
      · obtain ⟨p, hp, rfl⟩ := hb
        exact off p hp
      · exact absurd (if_neg hb) z
    · by_cases hb : ∃ p ∈ cs, b = p.2
      · cases (if_pos hb).symm.trans z
        obtain ⟨p, hp, rfl⟩ := hb
        exact ht p hp
      · cases (if_neg hb).symm.trans z
  | none =>
    let fz : HO := .frz { cls := .type "list", data := .seq vs.toArray } (.lst (ns.map V.int))
    refine go (H := upd Ht a fz) ⟨fun p hp => ?_, fun b => ?_, fun b z => ?_, .inl (.inr ⟨_, upd_same⟩)⟩ fun b t z => ?_
    · rw [upd_ne (fun w => aT ⟨p, hp, w.symm⟩)]
      exact atT p hp
    · by_cases ha : b = a
      · exact .inr (.inr ⟨ha, _, _, by rw [ha]; exact upd_same⟩)
      · rw [upd_ne ha]
        by_cases hb : ∃ p ∈ cs, b = p.2
        · exact .inr (.inl hb)
        · exact .inl (if_neg hb)
    · by_cases ha : b = a
      · rw [ha]
        exact hk
      · rw [upd_ne ha] at z
        by_cases hb : ∃ p ∈ cs, b = p.2
        · obtain ⟨p, hp, rfl⟩ := hb
          exact off p hp
        · exact absurd (if_neg hb) z
    · by_cases ha : b = a
      · rw [ha, upd_same] at z
        cases z
        rw [ha]
        exact ⟨obj, lz, vs, _, rv, obj⟩
      · rw [upd_ne ha] at z
        by_cases hb : ∃ p ∈ cs, b = p.2
        · cases (if_pos hb).symm.trans z
          obtain ⟨p, hp, rfl⟩ := hb
          exact ht p hp
        · cases (if_neg hb).symm.trans z
end XT

set_option Elab.async false
set_option linter.all false
set_option maxRecDepth 100000
set_option maxHeartbeats 4000000
/-! The law itself: its words. -/
namespace Fi
open PySem PySem.NumText PySem.Spec PyProof.Rows L2 EvP Cm Fk DtE Tb XG Wd LamX LamG
open K17 (Pen But spPick spDraw)
open Dg hiding numT
/-- a filling, by its rows -/
def filP (CS C : Addr) (R : TRow) : PR := ⟨fun v H => ∃ b S U, v = .ref b ∧ FilAt CS C H b R S U, fun _ _ _ e ⟨b, S, U, h1, h2⟩ => ⟨b, S, U, h1, h2.mono e⟩⟩
theorem fil_ins {CS C a : Addr} {H : Hp} {R : TRow} {S U : Fk.Row} (h : FilAt CS C H a R S U) : Own.Ins H (.ref a) C := by
  obtain ⟨dx, p, s, u, d, rr, prs, rows, h1, _⟩ := h
  exact ⟨a, dx, _, rfl, h1⟩
theorem fit_of {R : TRow} (h : ∀ t ∈ R, GoodP t.1) : FitK R := fun t ht => by
  obtain ⟨a, x, e, ha, hx⟩ := h t ht
  exact ⟨a, x, e, strOk_name ha, strOk_name hx⟩
theorem told_good {r : TRow} (d : DrawnF r) : ∀ t ∈ toldT r, GoodP t.1 := fun t ht => d.key t (told_in d.nod ht).1
theorem wordsF_len : ∀ R : TRow, (wordsF R).length + 1 ≤ 4 * R.length + 1
  | [] => by decide
  | [t] => by
    show 3 + 1 ≤ 4 * 1 + 1
    decide
  | t :: u :: r => by
    have ih := wordsF_len (u :: r)
    have : (wordsF (t :: u :: r)).length = (wordsF (u :: r)).length + 4 := rfl
    rw [this]
    have l1 : (t :: u :: r).length = (u :: r).length + 1 := rfl
    omega
theorem wordsF_tot : ∀ {R : TRow}, (∀ t ∈ R, GoodP t.1 ∧ 0 ≤ t.2 ∧ t.2 ≤ 10 ^ 29) → tot (wordsF R) ≤ 51 * R.length
  | [], _ => Nat.le_refl _
  | t :: r, h => by
    have ih := wordsF_tot (R := r) fun u hu => h u (.tail _ hu)
    obtain ⟨h1, h2, h3⟩ := h t (.head _)
    obtain ⟨a, x, e, ha, hx⟩ := h1
    have l1 := (name_small ha).1
    have l2 := (name_small hx).1
    have l3 : (Fk.numT t.2).length ≤ 30 := by
      rw [← len_cps, Dg.numT_cps h2]
      exact dl_hi h2 h3
    have e0 : nmK 0 t.1 = a := by rw [e]; rfl
    have e1 : nmK 1 t.1 = x := by rw [e]; rfl
    have s : tot (semi (wordsF r)) ≤ 2 + 51 * r.length := by
      unfold semi
      split
      · show 0 ≤ _
        omega
      · show (1 + 1) + tot (wordsF r) ≤ _
        omega
    show ((nmK 0 t.1).length + 1) + (((nmK 1 t.1).length + 1) + ((Fk.numT t.2).length + 1 + tot (semi (wordsF r)))) ≤ 51 * (r.length + 1)
    rw [e0, e1]
    omega
theorem wordsF_asc : ∀ {R : TRow}, (∀ t ∈ R, GoodP t.1 ∧ 0 ≤ t.2) → ∀ p ∈ wordsF R, ∀ c ∈ tl p, c < 128
  | [], _ => fun p hp => nomatch hp
  | t :: r, h => by
    intro p hp c hc
    obtain ⟨h1, h2⟩ := h t (.head _)
    obtain ⟨a, x, e, ha, hx⟩ := h1
    have e0 : nmK 0 t.1 = a := by rw [e]; rfl
    have e1 : nmK 1 t.1 = x := by rw [e]; rfl
    have hp : p ∈ nmK 0 t.1 :: nmK 1 t.1 :: Fk.numT t.2 :: semi (wordsF r) := hp
    rw [e0, e1] at hp
    rcases List.mem_cons.mp hp with rfl | hp
    · exact name_asc ha c hc
    rcases List.mem_cons.mp hp with rfl | hp
    · exact name_asc hx c hc
    rcases List.mem_cons.mp hp with rfl | hp
    · exact numT_asc h2 c hc
    unfold semi at hp
    split at hp
    · cases hp
    · rcases List.mem_cons.mp hp with rfl | hp
      · have : ∀ c ∈ tl (";" : Str), c < 128 := by decide +kernel
        exact this c hc
      · exact wordsF_asc (fun u hu => h u (.tail _ hu)) p hp c hc
theorem line_bd {r : TRow} (d : DrawnF r) : Bd 36 460 (lineF (toldT r)) := by
  have up := told_up d.amts
  have tl9 := told_len r
  have few := d.few
  have g3 : ∀ t ∈ toldT r, GoodP t.1 ∧ 0 ≤ t.2 ∧ t.2 ≤ 10 ^ 29 := fun t ht => ⟨told_good d t ht, d.lo t (told_in d.nod ht).1, d.hi t (told_in d.nod ht).1⟩
  by_cases e : toldT r = []
  · rw [e]
    show Bd 36 460 "-"
    exact ⟨by decide +kernel, by decide +kernel, by decide +kernel⟩
  · have ej : lineF (toldT r) = Txt.join sp (wordsF (toldT r)) := by
      unfold lineF
      rw [if_neg (by simpa using e), lineK e]
    have wl := wordsF_len (toldT r)
    have wt := wordsF_tot g3
    rw [ej]
    refine Bd.join (by decide) ?_ (by omega) (wordsF_asc fun t ht => ⟨(g3 t ht).1, (g3 t ht).2.1⟩)
    rw [wsum_one (wordsF_no up)]
    omega
/-- how long a line is behind j bends -/
def Lf : Nat → Nat
  | 0 => 460
  | j + 1 => 2 * Lf j + 100
theorem Lf_le : ∀ j, j ≤ 4 → Lf j ≤ 9000 := by decide
theorem Lf_le3 : ∀ j, j < 4 → Lf j ≤ 4400 := by decide
def some1 : List Str := ["", "a", "a x", "a x 1 ;", "a x 1 a y 2", "a x 1 ; a x 2", "a y 1 ; a x 2", "b x 1 ; a y 1", "- -", "-", "a x 0"]
def some2 : List Str := ["a x 1 ; b w 2", "a x 1 ;b y 1", "none x 1", "a none 1", "self x 1", "a self 1", "a x 1 ; ; b y 1", "a x 1\nb y 1"]
theorem someL_ok : ∀ z ∈ some1 ++ some2, z.length ≤ 9000 ∧ (ws z).length ≤ 200 ∧ ∀ c ∈ tl z, c < 128 := by decide +kernel
theorem TabS_but {H H' : Hp} {P p : Addr} {q : Str} {xs : List V} (t : TabS H P q) (hp : H p = some (.lst xs)) (k : But p H H') : TabS H' P q := by
  obtain ⟨ps, h1, h2, h3⟩ := t
  refine ⟨ps, k _ _ h1 (ne_of h1 hp (fun z => nomatch z)), h2, fun pos cv hc => ?_⟩
  obtain ⟨c, e1, e2⟩ := h3 pos cv hc
  exact ⟨c, e1, k _ _ e2 (ne_of e2 hp (fun z => by
    unfold CodeO at z
    cases z))⟩
theorem Tabs_but {T : List (Addr × Str)} {H H' : Hp} {p : Addr} {xs : List V} (t : Tabs T H) (hp : H p = some (.lst xs)) (k : But p H H') : Tabs T H' := fun x hx => TabS_but (t x hx) hp k
theorem PenN {H H' : Hp} {p q : Addr} {ns : List Int} {s g : Int} (x : Pen H p q ns s g) (e : ExtN H H') : Pen H' p q ns s g := ⟨e _ _ x.p (fun ps z => nomatch z), e _ _ x.q (fun ps z => nomatch z)⟩
section
variable {K : PySem.W.Frag} {CS C CB : Addr} {σ : L2.St} {H : Hp} {u t : TS} {D : Ends} {T : List (Addr × Str)} {tt tu : TT} {b : Bool} {te ta tb : TE} {R R' : TRow}
/-- a test that says b, and may write the tables -/
def TstN (T : List (Addr × Str)) (tt : TT) (σ : L2.St) (H : Hp) (b : Bool) : Prop := ∀ H1, ExtN H H1 → Tabs T H1 → ∀ Q : Bool → Hp → Prop, (∀ H2, ExtN H1 H2 → Tabs T H2 → Q b H2) → tt σ H1 Q
theorem t_orN (h : TstN T tt σ H false) (k : TstN T tu σ H b) : TstN T (tOr tt tu) σ H b := fun H1 e t1 Q q =>
  h H1 e t1 _ fun H2 e2 t2 => by
    show tu σ H2 Q
    exact k H2 (e.trans e2) t2 Q fun H3 e3 t3 => q H3 (e2.trans e3) t3
theorem st_ifFN (h : TstN T tt σ H false) (hT : Tabs T H) (k : ∀ H1, ExtN H H1 → Tabs T H1 → u D σ H1) : tSeq (tIfS tt t tNext) u D σ H := h H (ExtN.refl H) hT _ k
theorem st_ifFN1 (h : TstN T tt σ H false) (hT : Tabs T H) (k : ∀ H1, ExtN H H1 → Tabs T H1 → D.nx σ H1) : tIfS tt t tNext D σ H := h H (ExtN.refl H) hT _ k
/-- a test of what lasts -/
theorem t_lasts (h : ∀ H1, ExtN H H1 → Tst tt σ H1 b) : TstN T tt σ H b := fun H1 e t1 Q q => h H1 e H1 (Ex.refl H1) Q fun H2 e2 => q H2 (ExtN.of e2) (t1.ext e2)
theorem t_right {z : Str} {i : Nat} (hi : σ[i]? = some (some (.str z))) (hz : LnF z) : TstN T (tNot (tB (tCall (spRight T) [] E0 (tCons (tVar i) tNil)))) σ H false := fun H1 e t1 Q q =>
  ⟨_, hi, z, rfl, hz, t1, fun H' e' t' => ⟨true, rfl, q H' e' t'⟩⟩
/-- Filling.read(line), a filling's own text -/
theorem g_read {z : Str} (h : EvP.Gives te σ H (is (.str z))) (tz : TxF z) (hw : wrongF (ws z) = none) (hr : toldT (readF (ws z)) = R) : EvP.Gives (ClX.tCMeth C (spFRead K CS C CB) E0 (tC (.ref C)) (tCons te tNil)) σ H (filP CS C R) := fun H1 e Q q =>
  ⟨rfl, h H1 e _ fun v H2 e2 ev => ⟨v, rfl, .inl ⟨z, ev, tz, fun _ b H' e' _ sb => q _ _ (e2.trans e') ⟨b, _, _, rfl, by rw [← hr]; exact sb⟩, fun k hk => by
    rw [hw] at hk
    cases hk⟩⟩⟩
theorem g_readK {gV : List V → List V → List V} {z : Str} (h : EvP.Gives te σ H (is (.str z))) (tz : TxF z) (hw : wrongF (ws z) = none) (hr : toldT (readF (ws z)) = R) (hg : ∀ v, gV [.ref C] [v] = [.ref C, v]) : EvP.Gives (XG.tCMethK C (spFRead K CS C CB) gV E0 (tC (.ref C)) (tCons te tNil)) σ H (filP CS C R) := fun H1 e Q q =>
  ⟨rfl, h H1 e _ fun v H2 e2 ev => ⟨v, hg v, .inl ⟨z, ev, tz, fun _ b H' e' _ sb => q _ _ (e2.trans e') ⟨b, _, _, rfl, by rw [← hr]; exact sb⟩, fun k hk => by
    rw [hw] at hk
    cases hk⟩⟩⟩
/-- a dict of amounts of pairs -/
def dctT (r : TRow) : PR := ⟨fun v H => ∃ a, v = .ref a ∧ H a = some (.dT (tents r)), fun _ _ _ e ⟨a, h1, h2⟩ => ⟨a, h1, e _ _ h2⟩⟩
/-- Filling(amounts) -/
theorem g_makeF {r : TRow} (h : EvP.Gives te σ H (dctT r)) (am : Amts r) : EvP.Gives (XG.tMakeGX C (spFI CS C) E0 (tCons te tNil)) σ H (filP CS C (toldT r)) := fun H1 e Q q =>
  h H1 e _ fun v H2 e2 ⟨d, ev, hd⟩ x dx hx hdx ne => by
    subst ev
    have e3 : Ex H2 (upd (upd H2 dx (.own x)) x (.ins C dx [])) := fun b o hb => by
      rw [upd_ne (ne_of_none hb hx), upd_ne (ne_of_none hb hdx)]
      exact hb
    exact ⟨x, d, dx, r, rfl, upd_same, e3 _ _ hd, am, fun H4 bt fa => ⟨rfl, q _ _ (e2.trans fun b o hb => bt b o (e3 b o hb) (ne_of_none hb hx)) ⟨x, _, _, rfl, fa⟩⟩⟩
theorem g_neOwn (h : EvP.Gives ta σ H (filP CS C R)) (k : EvP.Gives tb σ H (filP CS C R')) (o1 : FitK R) (o2 : FitK R') : EvP.Gives (tOp (Own.rNeOwn C (spFEqs K CS C)) ta tb) σ H (is (.bl (!decide (R = R')))) :=
  g_op h k fun x y H1 e ⟨a, S, U, ex, sa⟩ ⟨b, S', U', ey, sb⟩ Q q => by
    subst ex
    subst ey
    exact ⟨fil_ins sa, fil_ins sb, .inl ⟨a, b, R, R', S, U, S', U', rfl, sa, sb, o1, o2, _, rfl, q _ _ (Ex.refl _) rfl⟩⟩
end
/-- what else the law asks of the class -/
structure FilW (P : Program) (w : World) (K : PySem.W.Frag) (mg : Str → Option Value) (base : Heap) (CS C CB : Addr) (M : FilR P w K mg base CS C CB) where
  fE : Addr
  dE : FuncData
  eq : Own.Mt P w K mg base C "__eq__" 1 ["self", "other"] (spFEqs K CS C) fE dE
  ne : PySem.W.findIn K (.ref C) "__ne__" = some (some (.builtin "object.__ne__"))
  mro : PySem.W.mroIn K C (.type "object") = some true
  bRK : KBinds K M.dR ["cls", "text"] ["text"] kwA kwA
  fN : Addr
  dN : FuncData
  mkC : Mk K C fN
  ini : XG.FnG P w K mg base CX0 8 fN dN ["self", "amounts"] (spFI CS C)
  bN : Binds K dN ["self", "amounts"] []
  kS : PySem.W.kitOne K (.ref C) (.type "str") = some false
abbrev sLaw : Stmt := Fk.top 55
def NLw : List Str := ["script", "pen", "turn", "plain", "line", "again", "some", "odd"]
theorem scLaw : FnScope NLw ["script"] (defScope sLaw) := ⟨rfl, rfl, rfl, by decide +kernel, rfl, by decide +kernel, by decide +kernel⟩
def nmL : Str := "law.<locals>.<lambda>"
def spLaw (K : PySem.W.Frag) (T : List (Addr × Str)) : Sp := fun vs H Q _ => ∃ (a : Addr) (ns : List Int), vs = [.ref a] ∧ SqL K H a (ns.map V.int) ∧ ns.length ≤ 63 ∧ Tabs T H ∧ ∀ H', Q (.bl true) H'
/-- what is no text, and stays -/
def OddV (K : PySem.W.Frag) (p : Addr) (v : V) (H : Hp) : Prop := ∃ t : Value, PySem.W.kitOne K t (.type "str") = some false ∧ ∀ H', (∀ b o, H b = some o → b ≠ p → (∀ ps, o ≠ .tbl ps) → H' b = some o) → TyX K H' v t
theorem pass_calm {X : Cx} : ∀ σ, PassesAt (L2.CX X.prog X.w) X σ E0 := fun σ => by
  intro pins H s e s' I c
  obtain ⟨_, _, _, _, _, _, _, _, _, _, _, _, z⟩ := c
  exact z.elim
end Fi

set_option Elab.async false
set_option linter.all false
set_option maxRecDepth 100000
set_option maxHeartbeats 4000000
/-! The law itself. -/
namespace Fi
open PySem PySem.NumText PySem.Spec PyProof.Rows L2 EvP Cm Fk DtE Tb XG Wd LamX LamG
open K17 (Pen But spPick spDraw spPen)
open Dg hiding numT
section
variable {P : Program} {w : World} {K : PySem.W.Frag} {mg : Str → Option Value} {base : Heap} {CS C CB CF f c PT fR : Addr} {fd dR : FuncData} {T : List (Addr × Str)}
theorem ok_lawF (F : FunC K "law" "law" sLaw f c fd) (M : FilR P w K mg base CS C CB) (W : FilW P w K mg base CS C CB M) (hR : mg "range" = none) (B : Fk.Blt mg) (HD : HeardD K mg CF CB)
    (DP : CalD P w K mg base 1 "_law_pen" ["script"] (spPen K)) (DC : CalD P w K mg base 3 "_law_cells" ["pen"] spCells) (DL : CalD P w K mg base 4 "_law_plain" ["pen", "cells"] spPlain) (DI : CalD P w K mg base 2 "_law_line" ["plain"] spLineF) (DK : CalD P w K mg base 2 "_law_pick" ["pen", "some"] spPick) (DB : CalD P w K mg base 3 "_law_bent" ["pen", "line"] spBent)
    (FR : XG.FnG P w K mg base CX0 13 fR dR ["line"] (spRight T)) (bR : Binds K dR ["line"] []) (gR : mg "_law_right" = some (.ref fR)) (kR : PySem.W.keepIn K (.ref fR) = true)
    (TB : TabB base mg c PT) (hmT : (PT, nmL) ∈ T) (hu : ∀ p ∈ T, p.1 = PT → p.2 = nmL) : XG.FnG P w K mg base CX0 14 f fd ["script"] (spLaw K T) := by
  have nd := scLaw.nd
  obtain ⟨oc, od, kV, doc, pm, an, cdv, ct, osl, efd, lk, hcd⟩ := HD.F.ex
  have hb := HD.b
  rw [efd] at hb lk
  refine FunC.okG F scLaw (fun vs H Q E h => ?_) (fun A outer s H vs Q E gd hr h => ?_)
  · obtain ⟨a, ns, rfl, _⟩ := h
    rfl
  · have gd : (A.deeper (envOfC "law" (defScope sLaw) s.heap.objs.size f (.ref c))).guards = some [] := gd
    refine ⟨_, pss_cons (ps_set (i := 1) nd rfl (Or.inl rfl) (pe_call DP.ok (hr.mono (by decide)) (by rfl) DP.g DP.kp DP.b .nil pass0 (pa_cons (pv 0) pa_nil)))
      (pss_cons (ps_for PassesOwn.never rfl (pi_range1 rfl hR (pa_cons pe_int pa_nil)) (pg_name (i := 2) nd rfl (Or.inl rfl))
        (pss_cons (ps_set (i := 3) nd rfl (Or.inl rfl) (pe_call DL.ok (hr.mono (by decide)) (by rfl) DL.g DL.kp DL.b .nil pass0 (pa_cons (pv 1) (pa_cons (pe_call DC.ok (hr.mono (by decide)) (by rfl) DC.g DC.kp DC.b .nil pass0 (pa_cons (pv 1) pa_nil)) pa_nil))))
        (pss_cons (ps_set (i := 4) nd rfl (Or.inl rfl) (pe_call DI.ok (hr.mono (by decide)) (by rfl) DI.g DI.kp DI.b .nil pass0 (pa_cons (pv 3) pa_nil)))
        (pss_cons (ps_if (PW.pt (pw_or (pt_cmpR (Own.ne_own W.eq W.ne W.mro (hr.mono (by decide))) (XG.pe_cmGX (pe_glob (v := .ref C) (by rfl) M.gF rfl) M.r M.cR M.read spFRead_len gd (hr.mono (by decide)) M.bR pass_calm (pa_cons (pv 4) pa_nil)) (XG.pe_makeGX W.mkC (FnG.lift W.ini) spFI_len gd (hr.mono (by decide)) W.bN pass_calm (by rfl) M.gF (pa_cons (pv 3) pa_nil)) (nomark _))
          (pw_or (pt_cmpR (Own.ne_own W.eq W.ne W.mro (hr.mono (by decide))) (XG.pe_cmKGX (pe_glob (v := .ref C) (by rfl) M.gF rfl) M.r M.cR M.read spFRead_len gd (hr.mono (by decide)) W.bRK pass_calm (pk_cons (pv 4) pk_nil)) (XG.pe_makeGX W.mkC (FnG.lift W.ini) spFI_len gd (hr.mono (by decide)) W.bN pass_calm (by rfl) M.gF (pa_cons (pv 3) pa_nil)) (nomark _))
          (pw_or1 (pt_not (pt_val (pe_callG FR spRight_len gd (hr.mono (by decide)) (by rfl) gR kR bR (pa_cons (pv 4) pa_nil)))))))) (pss_one (ps_ret pe_bl)) pss_nil)
        (pss_cons (ps_for PassesOwn.never rfl (pi_range1 rfl hR (pa_cons pe_int pa_nil)) (pg_name (i := 5) nd rfl (Or.inl rfl))
          (pss_cons (ps_set (i := 4) nd rfl (Or.inl rfl) (pe_call DB.ok (hr.mono (by decide)) (by rfl) DB.g DB.kp DB.b .nil pass0 (pa_cons (pv 1) (pa_cons (pv 4) pa_nil))))
            (pss_one (ps_if (pt_not (pt_val (pe_callG FR spRight_len gd (hr.mono (by decide)) (by rfl) gR kR bR (pa_cons (pv 4) pa_nil)))) (pss_one (ps_ret pe_bl)) pss_nil))))
        (pss_cons (ps_set (i := 7) nd rfl (Or.inr rfl) (pe_call DK.ok (hr.mono (by decide)) (by rfl) DK.g DK.kp DK.b .nil pass0 (pa_cons (pv 1) (pa_cons (pe_lst (pa_cons pe_non (pa_cons pe_int (pa_cons pe_bl (pa_cons (pv 3) (pa_cons (pe_tup pa_nil) (pa_cons (pe_lst (pa_cons pe_str (pa_cons pe_str (pa_cons pe_int pa_nil)))) (pa_cons (XG.pe_makeGX W.mkC (FnG.lift W.ini) spFI_len gd (hr.mono (by decide)) W.bN pass_calm (by rfl) M.gF (pa_cons pe_dnewT pa_nil)) pa_nil)))))))) pa_nil))))
        (pss_one (ps_if (pt_cmpR (op_neD hr.units) (by exact LamG.pe_lamG (k := 10) (T := T) (TT := THeard CB) (t := fun E => ClX.tCMeth C (spFRead K CS C CB) E (tC (.ref C)) (tCons (tVar 7) tNil)) (by rfl) HD.gH HD.kH lk hcd hb scHeard rfl (.inl rfl) (heard_gives B HD.X) TB rfl (by exact hmT) (by exact hu) (hr.mono (by decide)) (lamS_by (by show lamSB (defScope sLaw) _ = true; decide +kernel)) rfl (fun _ _ _ _ _ => rfl) (fun A outer s H E f c2 gd2 hr2 => XG.pe_cmGX (pe_glob (v := .ref C) (by rfl) M.gF rfl) M.r M.cR M.read spFRead_len (gd2.trans gd) hr2 M.bR (fun σ => passAt (W := fun cls d _ H => E cls d H) (takes_of rfl rfl rfl rfl) σ) (pa_cons (pe_var (i := 7) rfl (.inr (.inr rfl))) pa_nil))) (pe_tup (pa_cons pe_str (pa_cons pe_int (pa_cons pe_int pa_nil)))) (nomark _)) (pss_one (ps_ret pe_bl)) pss_nil))))))))
      (pss_cons (ps_set (i := 6) nd rfl (Or.inl rfl) (pe_lst (pa_cons pe_str (pa_cons pe_str (pa_cons pe_str (pa_cons pe_str (pa_cons pe_str (pa_cons pe_str (pa_cons pe_str (pa_cons pe_str (pa_cons pe_str (pa_cons pe_str (pa_cons pe_str pa_nil)))))))))))))
      (pss_cons (ps_set (i := 6) nd rfl (Or.inl rfl) (pe_op op_cat (pv 6) (pe_lst (pa_cons pe_str (pa_cons pe_str (pa_cons pe_str (pa_cons pe_str (pa_cons pe_str (pa_cons pe_str (pa_cons pe_str (pa_cons pe_str pa_nil)))))))))))
      (pss_one (ps_ret (pe_cmpR (op_eqD hr.units) (pe_lc (own := [("line", 4)]) (g := gName 4) (tt := tNot (tB (tCall (spRight T) [] E0 (tCons (tVar 4) tNil)))) (te := tVar 4) rfl nd (pi_list (pv 6)) (blkOk_by (N := NLw) (sc := defScope sLaw) (by decide +kernel)) (fun _ _ _ _ _ => pg_name (i := 4) nd rfl (Or.inl rfl)) (fun _ _ _ _ _ => pts_one (pt_not (pt_val (pe_callG FR spRight_len (by exact gd) (hr.mono (by decide)) (by rfl) gR kR bR (pa_cons (pv 4) pa_nil))))) (fun _ _ _ _ _ => pv 4)) (pe_lst pa_nil) (nomark _))))))), ?_⟩
    obtain ⟨a, ns, rfl, hS, hl, hT0, q⟩ := h
    -- pen = _law_pen(script)
    refine ⟨_, rfl, a, ns, rfl, hS, hl, fun p qc ms H1 hm hP1 x1 => ?_⟩
    have t1 := hT0.ext x1
    -- for turn in range(8)
    refine ⟨8, rfl, by decide, by decide, for_range (lo := 0) (n := 8) (fun k σ H' => ∃ (o2 o3 o4 o5 o7 : Option V) (s g : Int), σ = [some (.ref a), some (.ref p), o2, o3, o4, o5, none, o7] ∧ Pen H' p qc ms s g ∧ 0 ≤ s ∧ s ≤ 60 * (k : Int) ∧ Tabs T H') ?_ ?_ ?_⟩
    · exact ⟨none, none, none, none, none, 0, 0, rfl, hP1, by omega, by omega, t1⟩
    · rintro k σ H2 hk ⟨o2, o3, o4, o5, o7, s, g, rfl, hP2, s0, s1, t2⟩
      -- plain = _law_plain(pen, _law_cells(pen))
      refine ⟨_, rfl, _, rfl, p, qc, ms, s, g, rfl, hP2, hm, s0, by omega, fun fc ks acc sz gz Hz gk hfc hfl al z0 z1 hPz hBz => ?_⟩
      have tz := Tabs_but t2 hP2.p hBz
      have fcp : fc ≠ p := (ne_of_none hP2.p hfc).symm
      refine ⟨p, qc, fc, ms, sz, gz, ks, acc, rfl, hPz, hm, by omega, by omega, gk, hfl, fcp, al, fun f1 kv1 sa ga H3 dr1 h1 f1p a1 b1 hP3 hB3 => ?_⟩
      have t3 := Tabs_but tz hPz.p hB3
      -- line = _law_line(plain)
      refine ⟨_, rfl, f1, kv1, rfl, h1, dr1, fun H4 e4 => ?_⟩
      have h14 := e4 _ _ h1
      have hP4 : Pen H4 p qc ms sa ga := ⟨e4 _ _ hP3.p, e4 _ _ hP3.q⟩
      have t4 := t3.ext e4
      obtain ⟨w1, w2⟩ := wrongF_line (told_up dr1.amts)
      have w3 : toldT (readF (ws (lineF (toldT kv1)))) = toldT kv1 := by
        rw [w2]
        exact told_up_self (told_up dr1.amts)
      have bd := line_bd dr1
      have ln := bd.ln (by decide) (by decide)
      have okT := fit_of (told_good dr1)
      dsimp only [gName]
      -- if Side.read(line) != Side.of(plain) or ..: return False
      refine st_ifFN (T := T) (t_orN (b := false) (t_lasts fun H5 e5 => t_test ?_) (t_orN (t_lasts fun H5 e5 => t_test ?_) (t_right (i := 4) rfl ln))) t4 fun H5 e5 t5 => ?_
      · have z := g_neOwn (K := K) (CS := CS) (C := C) (σ := [some (.ref a), some (.ref p), some (.int (0 + (k : Int))), some (.ref f1), some (.str (lineF (toldT kv1))), o5, none, o7]) (H := H5) (R := toldT kv1) (R' := toldT kv1) (g_read (K := K) (CB := CB) (EvP.var (i := 4) rfl) ln.toTxF w1 w3) (g_makeF (CS := CS) (C := C) (r := kv1) (EvP.varP (i := 3) rfl ⟨f1, rfl, e5 _ _ h14 (fun ps z => nomatch z)⟩) dr1.amts) okT okT
        rw [decide_eq_true rfl] at z
        exact z
      · have z := g_neOwn (K := K) (CS := CS) (C := C) (σ := [some (.ref a), some (.ref p), some (.int (0 + (k : Int))), some (.ref f1), some (.str (lineF (toldT kv1))), o5, none, o7]) (H := H5) (R := toldT kv1) (R' := toldT kv1) (g_readK (K := K) (gV := kwA) (CB := CB) (EvP.var (i := 4) rfl) ln.toTxF w1 w3 (fun _ => rfl)) (g_makeF (CS := CS) (C := C) (r := kv1) (EvP.varP (i := 3) rfl ⟨f1, rfl, e5 _ _ h14 (fun ps z => nomatch z)⟩) dr1.amts) okT okT
        rw [decide_eq_true rfl] at z
        exact z
      have hP5 := PenN hP4 e5
      have h15 := e5 _ _ h14 (fun ps z => nomatch z)
      -- for again in range(4)
      refine ⟨4, rfl, by decide, by decide, for_range (lo := 0) (n := 4) (fun j σ H' => ∃ (z : Str) (o5 : Option V) (s g : Int), σ = [some (.ref a), some (.ref p), some (.int (0 + (k : Int))), some (.ref f1), some (.str z), o5, none, o7] ∧ Bd (36 + 4 * j) (Lf j) z ∧ Pen H' p qc ms s g ∧ 0 ≤ s ∧ s ≤ 60 * (k : Int) + 41 + 4 * (j : Int) ∧ Tabs T H' ∧ H' f1 = some (.dT (tents kv1))) ?_ ?_ ?_⟩
      · exact ⟨_, o5, sa, ga, rfl, bd, hP5, by omega, by omega, t5, h15⟩
      · rintro j σ H6 hj ⟨z, o5', sb, gb, rfl, bz, hP6, b0, b2, t6, h16⟩
        have L3 := Lf_le3 j hj
        refine ⟨_, rfl, _, rfl, p, qc, ms, sb, gb, z, 36 + 4 * j, Lf j, rfl, hP6, hm, b0, by omega, bz, by omega, L3, fun z' sc gc H7 bz' c0 c1 hP7 hB7 => ?_⟩
        have t7 := Tabs_but t6 hP6.p hB7
        have h17 := hB7 _ _ h16 f1p
        have L4 := Lf_le (j + 1) (by omega)
        have bz2 : Bd (36 + 4 * (j + 1)) (Lf (j + 1)) z' := bz'
        dsimp only [gName]
        refine st_ifFN1 (T := T) (t_right (i := 4) rfl (bz2.ln (by omega) (by omega))) t7 fun H8 e8 t8 => ?_
        exact ⟨z', _, sc, gc, rfl, bz2, PenN hP7 e8, by omega, by push_cast; omega, t8, e8 _ _ h17 (fun ps z => nomatch z)⟩
      · rintro σ H6 ⟨z, o5', sb, gb, rfl, bz, hP6, b0, b2, t6, h16⟩
        -- odd = _law_pick(pen, [..])
        have h16p := f1p
        refine ⟨_, rfl, ?_⟩
        have g0 : Amts [] := ⟨List.nodup_nil, (fun t ht => nomatch ht), (fun t ht => nomatch ht), (by show 0 ≤ 60; decide)⟩
        have hside : ∀ {σ : L2.St} {H : Hp}, EvP.Gives (XG.tMakeGX C (spFI CS C) E0 (tCons (fun σ H Q => ∀ d, H d = none → Q (.ref d) (upd H d (.dT []))) tNil)) σ H (filP CS C (toldT [])) := fun {σ H} => g_makeF (r := []) (fun H1 e1 Q k => fun d hd => k _ _ (Ex.new hd) ⟨d, rfl, upd_same⟩) g0
        refine EvP.go (P := lst H6 [is .non, is (.int 0), is (.bl true), is (.ref f1), tupV [], lstV [.str "a", .str "x", .int 1], filP CS C (toldT [])]) (EvP.list (H0 := H6) (Ex.refl _) (EvP.cons EvP.cst (EvP.cons EvP.cst (EvP.cons EvP.cst (EvP.cons (EvP.var rfl) (EvP.cons ?t1 (EvP.cons ?t2 (EvP.cons hside EvP.nil))))))) (by show 7 ≤ 1000; decide)) fun v H7 e7 hv => ?k7
        case t1 => exact fun H8 e8 Q8 q8 => ⟨by show 0 ≤ sizeLine; decide, fun t ht => q8 _ _ (Ex.new ht) ⟨t, rfl, upd_same⟩⟩
        case t2 => exact Fk.Gives.imp (EvP.list (H0 := H6) (Ps := ([V.str "a", .str "x", .int 1] : List V).map is) (Ex.refl _) (EvP.cons EvP.cst (EvP.cons EvP.cst (EvP.cons EvP.cst EvP.nil))) (by show 3 ≤ 1000; decide)) fun v H h => lst_is h
        obtain ⟨l2, vs2, rfl, hl2, nl2, all⟩ := hv
        have hP7 : Pen H7 p qc ms sb gb := ⟨e7 _ _ hP6.p, e7 _ _ hP6.q⟩
        have lp : l2 ≠ p := fun z => by
          rw [z, hP6.p] at nl2
          cases nl2
        have t7 := t6.ext e7
        have h17 := e7 _ _ h16
        have lv : vs2.length = 7 := all.length
        -- each of them is no text
        have odd : ∀ v ∈ vs2, OddV K p v H7 := by
          intro v hv
          obtain ⟨j, hj⟩ := List.mem_iff_getElem?.mp hv
          have jl : j < 7 := by
            have := (List.getElem?_eq_some_iff.mp hj).1
            omega
          have at_ : ∀ Pj : PR, ([is .non, is (.int 0), is (.bl true), is (.ref f1), tupV [], lstV [.str "a", .str "x", .int 1], filP CS C (toldT [])] : List PR)[j]? = some Pj → Pj.R v H7 := fun Pj h => by
            obtain ⟨x, h1, h2⟩ := all.get h
            rw [hj] at h1
            cases h1
            exact h2
          match j, jl, at_ with
          | 0, _, at_ => rw [show v = _ from at_ _ rfl]; exact ⟨_, kit_ty (by decide +kernel), fun _ _ => .base .non⟩
          | 1, _, at_ => rw [show v = _ from at_ _ rfl]; exact ⟨_, kit_ty (by decide +kernel), fun _ _ => .base (.int 0)⟩
          | 2, _, at_ => rw [show v = _ from at_ _ rfl]; exact ⟨_, kit_ty (by decide +kernel), fun _ _ => .base (.bl true)⟩
          | 3, _, at_ => rw [show v = _ from at_ _ rfl]; exact ⟨_, kit_ty (by decide +kernel), fun H' k => .base (.dT (k _ _ h17 f1p (fun ps z => nomatch z)))⟩
          | 4, _, at_ =>
            obtain ⟨t, rfl, ht⟩ := at_ _ rfl
            exact ⟨_, kit_ty (by decide +kernel), fun H' k => .base (.tup (k _ _ ht (ne_of ht hP7.p (fun z => nomatch z)) (fun ps z => nomatch z)))⟩
          | 5, _, at_ =>
            obtain ⟨t, rfl, ht⟩ := at_ _ rfl
            exact ⟨_, kit_ty (by decide +kernel), fun H' k => .base (.lst (k _ _ ht (ne_of ht hP7.p (fun z => nomatch z)) (fun ps z => nomatch z)))⟩
          | 6, _, at_ =>
            obtain ⟨t, S1, U1, rfl, sb⟩ := at_ _ rfl
            obtain ⟨dx, p1, s1, u1, d1, r1, prs, rows, k1, _⟩ := sb
            exact ⟨_, W.kS, fun H' k => .base (.ins (k _ _ k1 (ne_of k1 hP7.p (fun z => nomatch z)) (fun ps z => nomatch z)) M.S.cl M.SI.ha M.SI.hn M.SI.htk M.SI.hm)⟩
          | j + 7, jl, _ => omega
        refine ⟨p, qc, ms, sb, gb, l2, vs2, rfl, hP7, hm, b0, by omega, hl2, lp, by omega, by omega, fun v sc gc H8 hv c0 c1 hP8 hB8 => ?_⟩
        obtain ⟨ty, kt, hty⟩ := odd v hv
        have t8 := Tabs_but t7 hP7.p hB8
        -- if _law_heard(lambda: Side.read(odd)) != ('text', 0, 0): return False
        refine st_heardOdd (CS := CS) (C := C) (CB := CB) (i := 7) (K := K) (t := ty) (v := v) rfl t8 (fun H' e => hty H' fun b o hb nb no => e _ _ (hB8 _ _ hb nb) no) kt fun t H9 e9 t9 ht => ?_
        refine ⟨by show 3 ≤ sizeLine; decide, fun r nr => ?_⟩
        have er := Ex.new (o := .tup (badT 0)) nr
        refine ⟨.tuple [.str "text", .int 0, .int ((0 : Nat) : Int)], .tuple [.str "text", .int 0, .int ((0 : Nat) : Int)], .tup (SqT.of (er _ _ ht)) (dp_bad 0), .tup (SqT.of upd_same) (dp_bad 0), bad_shaped 0, bad_shaped 0, _, rfl, ?_⟩
        rw [bad_eqv]
        have hP9 := PenN hP8 (e9.trans (ExtN.of er))
        exact ⟨_, _, _, _, _, sc, gc, rfl, hP9, by omega, by push_cast; omega, t9.ext er⟩
    · rintro σ H3 ⟨o2, o3, o4, o5, o7, s, g', rfl, hP3, s0, s1, t3⟩
      -- some = [..]
      refine EvP.st_set (P := lstV (some1.map V.str)) (g_lits some1 (EvP.cons EvP.cst (EvP.cons EvP.cst (EvP.cons EvP.cst (EvP.cons EvP.cst (EvP.cons EvP.cst (EvP.cons EvP.cst (EvP.cons EvP.cst (EvP.cons EvP.cst (EvP.cons EvP.cst (EvP.cons EvP.cst (EvP.cons EvP.cst EvP.nil))))))))))) (by decide)) fun v1 H31 e41 hv1 => ?_
      obtain ⟨l1, rfl, h41⟩ := hv1
      have t41 := t3.ext e41
      refine EvP.st_set (P := lstV ((some1 ++ some2).map V.str)) ?g2 fun v H4 e42 hv => ?k2
      case g2 =>
        rw [List.map_append]
        exact g_catV (EvP.varP (i := 6) rfl ⟨l1, rfl, h41⟩) (g_lits some2 (EvP.cons EvP.cst (EvP.cons EvP.cst (EvP.cons EvP.cst (EvP.cons EvP.cst (EvP.cons EvP.cst (EvP.cons EvP.cst (EvP.cons EvP.cst (EvP.cons EvP.cst EvP.nil)))))))) (by decide)) (by decide)
      obtain ⟨l, rfl, h4⟩ := hv
      have t4 := t41.ext e42
      refine ⟨_, rfl, l, rfl, ⟨_, SqL.of h4⟩, fun D hD => ?_⟩
      have e5 := Ex.new (o := .lst []) hD
      refine lc_list (K := K) (a := l) (xs := (some1 ++ some2).map V.str) (fun i H' => H' D = some (.lst []) ∧ H' l = some (.lst ((some1 ++ some2).map V.str)) ∧ Tabs T H') ⟨upd_same, e5 _ _ h4, t4.ext e5⟩ (fun i H' _ h => SqL.of h.2.1) (fun i x H' hx h => ?_) (fun H' h => ?_)
      · obtain ⟨d1, d2, d3⟩ := h
        rw [List.getElem?_map] at hx
        obtain ⟨z, hz, rfl⟩ := Option.map_eq_some_iff.mp hx
        obtain ⟨z1, z2, z3⟩ := someL_ok z (List.mem_of_getElem? hz)
        refine ⟨rfl, ?_⟩
        refine t_right (T := T) (i := 4) (z := z) rfl ⟨⟨z1, z2⟩, z3⟩ H' (ExtN.refl _) d3 _ fun H2 e2 t2 => ?_
        exact ⟨e2 _ _ d1 (fun ps z => nomatch z), e2 _ _ d2 (fun ps z => nomatch z), t2⟩
      · obtain ⟨d1, d2, d3⟩ := h
        refine ⟨by show 0 ≤ sizeLine; decide, fun r nr => ?_⟩
        have er := Ex.new (o := .lst []) nr
        refine ⟨.list [], .list [], .lst (SqL.of (er _ _ d1)) .nil, .lst (SqL.of upd_same) .nil, rfl, rfl, ?_⟩
        exact q _
end
end Fi

set_option Elab.async false
set_option linter.all false
set_option maxRecDepth 100000
set_option maxHeartbeats 4000000
/-! The facts of the text, put together. -/
namespace Fi
open PySem PySem.Spec PyProof.Rows L2 EvP Cm Fk DtE Tb XG Wd LamX LamG XT
open Dg hiding numT
def errM : Stmt := match Fk.top 8 with
  | .ClassDef _ _ _ body _ _ _ _ _ _ _ => body.getD 0 (.Pass ⟨0, 0, 0, 0⟩)
  | _ => .Pass ⟨0, 0, 0, 0⟩
theorem scErr : FnScope ["self", "line", "word"] ["self", "line", "word"] (defScope errM) := ⟨rfl, rfl, rfl, by decide +kernel, rfl, by decide +kernel, by decide +kernel⟩
/-- what the two classes of errors tell -/
def excB (K : PySem.W.Frag) (CF CB fE : Addr) : Bool :=
  decide (PySem.W.findIn K (.ref CB) "__getattribute__" = some (some (.builtin "BaseException.__getattribute__"))) && (decide (PySem.W.findIn K (.ref CB) "__getattr__" = some none) &&
  (decide (PySem.W.subIn K (.ref CB) (.type "BaseException") = some true) && (PySem.W.hasDictIn K CB && (decide (PySem.W.findIn K (.ref CB) "__class__" = some (some (.builtin "object.__class__"))) &&
  (decide (PySem.W.specialIn K (.builtin "object.__class__") "__get__" = some (some (.builtin "getset_descriptor.__get__"))) && (decide (PySem.W.takesIn K (.builtin "object.__class__") = some true) &&
  (decide (PySem.W.mroIn K CB (.type "object") = some true) && (decide (PySem.W.typeIn K (.ref CB) = some (.type "type")) && (PySem.W.keepIn K (.ref CB) && (decide (PySem.W.findIn K (.ref CB) "__setattr__" = some (some (.builtin "object.__setattr__"))) &&
  (decide (PySem.W.typeIn K (.ref fE) = some (.type "function")) && (decide (PySem.W.findIn K (.ref CB) "line" = some none) && (decide (PySem.W.findIn K (.ref CB) "word" = some none) && (decide (PySem.W.exmOne K (.ref CB) (.ref CF) = some true) && decide (PySem.W.kitOne K (.ref CB) (.ref CB) = some true)))))))))))))))
theorem and2 {a b : Bool} (h : (a && b) = true) : a = true ∧ b = true := Bool.and_eq_true_iff.mp h
theorem all_mk {P : Program} {w : World} {K : PySem.W.Frag} {l : PySem.W.OpenLaw} {h : Heap} {mg : Str → Option Value} {fa : Addr} (hl : l.prog = P) (X : K.In h) (G : h.Ns mainGlobals mg) (hfa : mg "law" = some (.ref fa)) (own : ∀ y ∈ (["_law_right", "law"] : List Str), ∀ fy, mg y = some (.ref fy) → OwnTab K fy h)
    {g0 : Addr} {Oc0 KV0 Dc0 Pm0 Cd0 Ct0 : Value} {Od0 An0 : Option Addr} {Sl0 : Array (Option Value)}
    {g1 : Addr} {Oc1 KV1 Dc1 Pm1 Cd1 Ct1 : Value} {Od1 An1 : Option Addr} {Sl1 : Array (Option Value)}
    {g2 : Addr} {Oc2 KV2 Dc2 Pm2 Cd2 Ct2 : Value} {Od2 An2 : Option Addr} {Sl2 : Array (Option Value)}
    {g3 : Addr} {Oc3 KV3 Dc3 Pm3 Cd3 Ct3 : Value} {Od3 An3 : Option Addr} {Sl3 : Array (Option Value)}
    {g4 : Addr} {Oc4 KV4 Dc4 Pm4 Cd4 Ct4 : Value} {Od4 An4 : Option Addr} {Sl4 : Array (Option Value)}
    {g5 : Addr} {Oc5 KV5 Dc5 Pm5 Cd5 Ct5 : Value} {Od5 An5 : Option Addr} {Sl5 : Array (Option Value)}
    {g6 : Addr} {Oc6 KV6 Dc6 Pm6 Cd6 Ct6 : Value} {Od6 An6 : Option Addr} {Sl6 : Array (Option Value)}
    {g7 : Addr} {Oc7 KV7 Dc7 Pm7 Cd7 Ct7 : Value} {Od7 An7 : Option Addr} {Sl7 : Array (Option Value)}
    {g8 : Addr} {Oc8 KV8 Dc8 Pm8 Cd8 Ct8 : Value} {Od8 An8 : Option Addr} {Sl8 : Array (Option Value)}
    {g9 : Addr} {Oc9 KV9 Dc9 Pm9 Cd9 Ct9 : Value} {Od9 An9 : Option Addr} {Sl9 : Array (Option Value)}
    {g10 : Addr} {Oc10 KV10 Dc10 Pm10 Cd10 Ct10 : Value} {Od10 An10 : Option Addr} {Sl10 : Array (Option Value)}
    {g11 : Addr} {Oc11 KV11 Dc11 Pm11 Cd11 Ct11 : Value} {Od11 An11 : Option Addr} {Sl11 : Array (Option Value)}
    {g12 : Addr} {Oc12 KV12 Dc12 Pm12 Cd12 Ct12 : Value} {Od12 An12 : Option Addr} {Sl12 : Array (Option Value)}
    {g13 : Addr} {Oc13 KV13 Dc13 Pm13 Cd13 Ct13 : Value} {Od13 An13 : Option Addr} {Sl13 : Array (Option Value)}
    {g14 : Addr} {Oc14 KV14 Dc14 Pm14 Cd14 Ct14 : Value} {Od14 An14 : Option Addr} {Sl14 : Array (Option Value)}
    {g15 : Addr} {Oc15 KV15 Dc15 Pm15 Cd15 Ct15 : Value} {Od15 An15 : Option Addr} {Sl15 : Array (Option Value)}
    {g16 : Addr} {Oc16 KV16 Dc16 Pm16 Cd16 Ct16 : Value} {Od16 An16 : Option Addr} {Sl16 : Array (Option Value)}
    {g17 : Addr} {Oc17 KV17 Dc17 Pm17 Cd17 Ct17 : Value} {Od17 An17 : Option Addr} {Sl17 : Array (Option Value)}
    {g18 : Addr} {Oc18 KV18 Dc18 Pm18 Cd18 Ct18 : Value} {Od18 An18 : Option Addr} {Sl18 : Array (Option Value)}
    {g19 : Addr} {Oc19 KV19 Dc19 Pm19 Cd19 Ct19 : Value} {Od19 An19 : Option Addr} {Sl19 : Array (Option Value)}
    {g20 : Addr} {Oc20 KV20 Dc20 Pm20 Cd20 Ct20 : Value} {Od20 An20 : Option Addr} {Sl20 : Array (Option Value)}
    {g21 : Addr} {Oc21 KV21 Dc21 Pm21 Cd21 Ct21 : Value} {Od21 An21 : Option Addr} {Sl21 : Array (Option Value)}
    {g22 : Addr} {Oc22 KV22 Dc22 Pm22 Cd22 Ct22 : Value} {Od22 An22 : Option Addr} {Sl22 : Array (Option Value)}
    {g23 : Addr} {Oc23 KV23 Dc23 Pm23 Cd23 Ct23 : Value} {Od23 An23 : Option Addr} {Sl23 : Array (Option Value)}
    {g24 : Addr} {Oc24 KV24 Dc24 Pm24 Cd24 Ct24 : Value} {Od24 An24 : Option Addr} {Sl24 : Array (Option Value)}
    {g25 : Addr} {Oc25 KV25 Dc25 Pm25 Cd25 Ct25 : Value} {Od25 An25 : Option Addr} {Sl25 : Array (Option Value)}
    {gP cP PP : Addr} {OcP KVP DcP PmP CtP eP : Value} {OdP AnP ddP : Option Addr} {SlP slP : Array (Option Value)} {vsP : Array Value}
    {gL cL PL : Addr} {OcL KVL DcL PmL CtL eL : Value} {OdL AnL ddL : Option Addr} {SlL slL : Array (Option Value)} {vsL : Array Value}
    {tL tK t1 t2 b1_ b2_ : Tok} {aN aB : Addr} {dN dB : Option Addr} {nN nB : Nat} {sN sB : Array (Option Value)}
    {CF CB fE : Addr} {nmE qE : Str} {NE : Addr} {bsE bmE : List Value} {snE : List Str} {subE : List Value} {abE : Bool} {colE : Option Bool} {ddE : Option Addr} {m0E m1E m2E m3E m5E : Option Value} {ocE kVE dcE pmE cdE ctE : Value} {odE anE : Option Addr} {slE : Array (Option Value)}
    {CS s_pR : Addr} {s_rR : List Value}
    {s_f0 : Addr} {s_oc0 s_kV0 s_dc0 s_pm0 s_cd0 s_ct0 : Value} {s_od0 s_an0 : Option Addr} {s_sl0 : Array (Option Value)}
    {s_f1 : Addr} {s_oc1 s_kV1 s_dc1 s_pm1 s_cd1 s_ct1 : Value} {s_od1 s_an1 : Option Addr} {s_sl1 : Array (Option Value)}
    {C q_pR : Addr} {q_rR : List Value}
    {q_f0 : Addr} {q_oc0 q_kV0 q_dc0 q_pm0 q_cd0 q_ct0 : Value} {q_od0 q_an0 : Option Addr} {q_sl0 : Array (Option Value)}
    {q_f1 : Addr} {q_oc1 q_kV1 q_dc1 q_pm1 q_cd1 q_ct1 : Value} {q_od1 q_an1 : Option Addr} {q_sl1 : Array (Option Value)}
    {q_f2 : Addr} {q_oc2 q_kV2 q_dc2 q_pm2 q_cd2 q_ct2 : Value} {q_od2 q_an2 : Option Addr} {q_sl2 : Array (Option Value)}
    {q_f3 : Addr} {q_oc3 q_kV3 q_dc3 q_pm3 q_cd3 q_ct3 : Value} {q_od3 q_an3 : Option Addr} {q_sl3 : Array (Option Value)}
    {CW : Addr}
    {h0 : Addr} {wc0 wV0 wo0 wp0 wd0 wt0 : Value} {wq0 wn0 : Option Addr} {wl0 : Array (Option Value)}
    {h1 : Addr} {wc1 wV1 wo1 wp1 wd1 wt1 : Value} {wq1 wn1 : Option Addr} {wl1 : Array (Option Value)}
    {h2 : Addr} {wc2 wV2 wo2 wp2 wd2 wt2 : Value} {wq2 wn2 : Option Addr} {wl2 : Array (Option Value)}
    {h3 : Addr} {wc3 wV3 wo3 wp3 wd3 wt3 : Value} {wq3 wn3 : Option Addr} {wl3 : Array (Option Value)}
    {h4 : Addr} {wc4 wV4 wo4 wp4 wd4 wt4 : Value} {wq4 wn4 : Option Addr} {wl4 : Array (Option Value)}
    {h5 : Addr} {wc5 wV5 wo5 wp5 wd5 wt5 : Value} {wq5 wn5 : Option Addr} {wl5 : Array (Option Value)}
    {h6 : Addr} {wc6 wV6 wo6 wp6 wd6 wt6 : Value} {wq6 wn6 : Option Addr} {wl6 : Array (Option Value)}
    {gd_I : Addr} {oc_I kv_I dc_I pm_I cd_I ct_I : Value} {od_I an_I : Option Addr} {sl_I : Array (Option Value)} {T_I : Addr} {cT_I : Value} {dT_I : Option Addr} {nT_I : Nat} {sT_I : Array (Option Value)}
    {gd_N : Addr} {oc_N kv_N dc_N pm_N cd_N ct_N : Value} {od_N an_N : Option Addr} {sl_N : Array (Option Value)} {T_N : Addr} {cT_N : Value} {dT_N : Option Addr} {nT_N : Nat} {sT_N : Array (Option Value)} {ts_N tu_N : Tok}
    {gd_Q : Addr} {oc_Q kv_Q dc_Q pm_Q cd_Q ct_Q : Value} {od_Q an_Q : Option Addr} {sl_Q : Array (Option Value)} {T_Q : Addr} {cT_Q : Value} {dT_Q : Option Addr} {nT_Q : Nat} {sT_Q : Array (Option Value)}
    (A0 : PySem.W.nsIn K mainGlobals "is_amount" = some (some (.ref g0)))
    (L0 : K.lookup g0 = some ⟨Oc0, Od0, .func (PySem.W.fnOf "is_amount" "is_amount" (defArgs Fk.sAmount) (defBody Fk.sAmount) (defScope Fk.sAmount) .none KV0 Dc0 Pm0 An0 Cd0 Ct0), Sl0⟩)
    (D0 : PySem.W.codeIn K Cd0 "is_amount" = true)
    (E0 : PySem.W.keepIn K (.ref g0) = true)
    (A1 : PySem.W.nsIn K mainGlobals "is_name" = some (some (.ref g1)))
    (L1 : K.lookup g1 = some ⟨Oc1, Od1, .func (PySem.W.fnOf "is_name" "is_name" (defArgs Fk.sName) (defBody Fk.sName) (defScope Fk.sName) .none KV1 Dc1 Pm1 An1 Cd1 Ct1), Sl1⟩)
    (D1 : PySem.W.codeIn K Cd1 "is_name" = true)
    (E1 : PySem.W.keepIn K (.ref g1) = true)
    (A2 : PySem.W.nsIn K mainGlobals "check_names" = some (some (.ref g2)))
    (L2 : K.lookup g2 = some ⟨Oc2, Od2, .func (PySem.W.fnOf "check_names" "check_names" (defArgs Fk.sNames) (defBody Fk.sNames) (defScope Fk.sNames) .none KV2 Dc2 Pm2 An2 Cd2 Ct2), Sl2⟩)
    (D2 : PySem.W.codeIn K Cd2 "check_names" = true)
    (E2 : PySem.W.keepIn K (.ref g2) = true)
    (A3 : PySem.W.nsIn K mainGlobals "number_text" = some (some (.ref g3)))
    (L3 : K.lookup g3 = some ⟨Oc3, Od3, .func (PySem.W.fnOf "number_text" "number_text" (defArgs Fk.sNum) (defBody Fk.sNum) (defScope Fk.sNum) .none KV3 Dc3 Pm3 An3 Cd3 Ct3), Sl3⟩)
    (D3 : PySem.W.codeIn K Cd3 "number_text" = true)
    (E3 : PySem.W.keepIn K (.ref g3) = true)
    (A4 : PySem.W.nsIn K mainGlobals "check_amounts" = some (some (.ref g4)))
    (L4 : K.lookup g4 = some ⟨Oc4, Od4, .func (PySem.W.fnOf "check_amounts" "check_amounts" (defArgs Fk.sAmounts) (defBody Fk.sAmounts) (defScope Fk.sAmounts) .none KV4 Dc4 Pm4 An4 Cd4 Ct4), Sl4⟩)
    (D4 : PySem.W.codeIn K Cd4 "check_amounts" = true)
    (E4 : PySem.W.keepIn K (.ref g4) = true)
    (A5 : PySem.W.nsIn K mainGlobals "is_pair" = some (some (.ref g5)))
    (L5 : K.lookup g5 = some ⟨Oc5, Od5, .func (PySem.W.fnOf "is_pair" "is_pair" (defArgs Fk.sPair) (defBody Fk.sPair) (defScope Fk.sPair) .none KV5 Dc5 Pm5 An5 Cd5 Ct5), Sl5⟩)
    (D5 : PySem.W.codeIn K Cd5 "is_pair" = true)
    (E5 : PySem.W.keepIn K (.ref g5) = true)
    (A6 : PySem.W.nsIn K mainGlobals "ascending" = some (some (.ref g6)))
    (L6 : K.lookup g6 = some ⟨Oc6, Od6, .func (PySem.W.fnOf "ascending" "ascending" (defArgs Tb.sAsc) (defBody Tb.sAsc) (defScope Tb.sAsc) .none KV6 Dc6 Pm6 An6 Cd6 Ct6), Sl6⟩)
    (D6 : PySem.W.codeIn K Cd6 "ascending" = true)
    (E6 : PySem.W.keepIn K (.ref g6) = true)
    (A7 : PySem.W.nsIn K mainGlobals "number_of" = some (some (.ref g7)))
    (L7 : K.lookup g7 = some ⟨Oc7, Od7, .func (PySem.W.fnOf "number_of" "number_of" (defArgs Wd.sNumOf) (defBody Wd.sNumOf) (defScope Wd.sNumOf) .none KV7 Dc7 Pm7 An7 Cd7 Ct7), Sl7⟩)
    (D7 : PySem.W.codeIn K Cd7 "number_of" = true)
    (E7 : PySem.W.keepIn K (.ref g7) = true)
    (A8 : PySem.W.nsIn K mainGlobals "is_number_text" = some (some (.ref g8)))
    (L8 : K.lookup g8 = some ⟨Oc8, Od8, .func (PySem.W.fnOf "is_number_text" "is_number_text" (defArgs Wd.sIsNum) (defBody Wd.sIsNum) (defScope Wd.sIsNum) .none KV8 Dc8 Pm8 An8 Cd8 Ct8), Sl8⟩)
    (D8 : PySem.W.codeIn K Cd8 "is_number_text" = true)
    (E8 : PySem.W.keepIn K (.ref g8) = true)
    (A9 : PySem.W.nsIn K mainGlobals "check_filling" = some (some (.ref g9)))
    (L9 : K.lookup g9 = some ⟨Oc9, Od9, .func (PySem.W.fnOf "check_filling" "check_filling" (defArgs Fi.sChk) (defBody Fi.sChk) (defScope Fi.sChk) .none KV9 Dc9 Pm9 An9 Cd9 Ct9), Sl9⟩)
    (D9 : PySem.W.codeIn K Cd9 "check_filling" = true)
    (E9 : PySem.W.keepIn K (.ref g9) = true)
    (A10 : PySem.W.nsIn K mainGlobals "sums_by" = some (some (.ref g10)))
    (L10 : K.lookup g10 = some ⟨Oc10, Od10, .func (PySem.W.fnOf "sums_by" "sums_by" (defArgs Fi.sSums) (defBody Fi.sSums) (defScope Fi.sSums) .none KV10 Dc10 Pm10 An10 Cd10 Ct10), Sl10⟩)
    (D10 : PySem.W.codeIn K Cd10 "sums_by" = true)
    (E10 : PySem.W.keepIn K (.ref g10) = true)
    (A11 : PySem.W.nsIn K mainGlobals "take_filled" = some (some (.ref g11)))
    (L11 : K.lookup g11 = some ⟨Oc11, Od11, .func (PySem.W.fnOf "take_filled" "take_filled" (defArgs Fi.sTF) (defBody Fi.sTF) (defScope Fi.sTF) .none KV11 Dc11 Pm11 An11 Cd11 Ct11), Sl11⟩)
    (D11 : PySem.W.codeIn K Cd11 "take_filled" = true)
    (E11 : PySem.W.keepIn K (.ref g11) = true)
    (A12 : PySem.W.nsIn K mainGlobals "_law_pen" = some (some (.ref g12)))
    (L12 : K.lookup g12 = some ⟨Oc12, Od12, .func (PySem.W.fnOf "_law_pen" "_law_pen" (defArgs K17.sPen) (defBody K17.sPen) (defScope K17.sPen) .none KV12 Dc12 Pm12 An12 Cd12 Ct12), Sl12⟩)
    (D12 : PySem.W.codeIn K Cd12 "_law_pen" = true)
    (E12 : PySem.W.keepIn K (.ref g12) = true)
    (A13 : PySem.W.nsIn K mainGlobals "_law_draw" = some (some (.ref g13)))
    (L13 : K.lookup g13 = some ⟨Oc13, Od13, .func (PySem.W.fnOf "_law_draw" "_law_draw" (defArgs K17.sDraw) (defBody K17.sDraw) (defScope K17.sDraw) .none KV13 Dc13 Pm13 An13 Cd13 Ct13), Sl13⟩)
    (D13 : PySem.W.codeIn K Cd13 "_law_draw" = true)
    (E13 : PySem.W.keepIn K (.ref g13) = true)
    (A14 : PySem.W.nsIn K mainGlobals "_law_pick" = some (some (.ref g14)))
    (L14 : K.lookup g14 = some ⟨Oc14, Od14, .func (PySem.W.fnOf "_law_pick" "_law_pick" (defArgs K17.sPick) (defBody K17.sPick) (defScope K17.sPick) .none KV14 Dc14 Pm14 An14 Cd14 Ct14), Sl14⟩)
    (D14 : PySem.W.codeIn K Cd14 "_law_pick" = true)
    (E14 : PySem.W.keepIn K (.ref g14) = true)
    (A15 : PySem.W.nsIn K mainGlobals "_law_amount" = some (some (.ref g15)))
    (L15 : K.lookup g15 = some ⟨Oc15, Od15, .func (PySem.W.fnOf "_law_amount" "_law_amount" (defArgs K17.sAmount) (defBody K17.sAmount) (defScope K17.sAmount) .none KV15 Dc15 Pm15 An15 Cd15 Ct15), Sl15⟩)
    (D15 : PySem.W.codeIn K Cd15 "_law_amount" = true)
    (E15 : PySem.W.keepIn K (.ref g15) = true)
    (A16 : PySem.W.nsIn K mainGlobals "_law_crossed" = some (some (.ref g16)))
    (L16 : K.lookup g16 = some ⟨Oc16, Od16, .func (PySem.W.fnOf "_law_crossed" "_law_crossed" (defArgs Fi.sCross) (defBody Fi.sCross) (defScope Fi.sCross) .none KV16 Dc16 Pm16 An16 Cd16 Ct16), Sl16⟩)
    (D16 : PySem.W.codeIn K Cd16 "_law_crossed" = true)
    (E16 : PySem.W.keepIn K (.ref g16) = true)
    (A17 : PySem.W.nsIn K mainGlobals "_law_cells" = some (some (.ref g17)))
    (L17 : K.lookup g17 = some ⟨Oc17, Od17, .func (PySem.W.fnOf "_law_cells" "_law_cells" (defArgs Fi.sCells) (defBody Fi.sCells) (defScope Fi.sCells) .none KV17 Dc17 Pm17 An17 Cd17 Ct17), Sl17⟩)
    (D17 : PySem.W.codeIn K Cd17 "_law_cells" = true)
    (E17 : PySem.W.keepIn K (.ref g17) = true)
    (A18 : PySem.W.nsIn K mainGlobals "_law_plain" = some (some (.ref g18)))
    (L18 : K.lookup g18 = some ⟨Oc18, Od18, .func (PySem.W.fnOf "_law_plain" "_law_plain" (defArgs Fi.sPlain) (defBody Fi.sPlain) (defScope Fi.sPlain) .none KV18 Dc18 Pm18 An18 Cd18 Ct18), Sl18⟩)
    (D18 : PySem.W.codeIn K Cd18 "_law_plain" = true)
    (E18 : PySem.W.keepIn K (.ref g18) = true)
    (A19 : PySem.W.nsIn K mainGlobals "_law_told" = some (some (.ref g19)))
    (L19 : K.lookup g19 = some ⟨Oc19, Od19, .func (PySem.W.fnOf "_law_told" "_law_told" (defArgs Fi.sTold) (defBody Fi.sTold) (defScope Fi.sTold) .none KV19 Dc19 Pm19 An19 Cd19 Ct19), Sl19⟩)
    (D19 : PySem.W.codeIn K Cd19 "_law_told" = true)
    (E19 : PySem.W.keepIn K (.ref g19) = true)
    (A20 : PySem.W.nsIn K mainGlobals "_law_line" = some (some (.ref g20)))
    (L20 : K.lookup g20 = some ⟨Oc20, Od20, .func (PySem.W.fnOf "_law_line" "_law_line" (defArgs Fi.sLine) (defBody Fi.sLine) (defScope Fi.sLine) .none KV20 Dc20 Pm20 An20 Cd20 Ct20), Sl20⟩)
    (D20 : PySem.W.codeIn K Cd20 "_law_line" = true)
    (E20 : PySem.W.keepIn K (.ref g20) = true)
    (A21 : PySem.W.nsIn K mainGlobals "_law_heard" = some (some (.ref g21)))
    (L21 : K.lookup g21 = some ⟨Oc21, Od21, .func (PySem.W.fnOf "_law_heard" "_law_heard" (defArgs Fi.sHeard) (defBody Fi.sHeard) (defScope Fi.sHeard) .none KV21 Dc21 Pm21 An21 Cd21 Ct21), Sl21⟩)
    (D21 : PySem.W.codeIn K Cd21 "_law_heard" = true)
    (E21 : PySem.W.keepIn K (.ref g21) = true)
    (A22 : PySem.W.nsIn K mainGlobals "_law_is_name" = some (some (.ref g22)))
    (L22 : K.lookup g22 = some ⟨Oc22, Od22, .func (PySem.W.fnOf "_law_is_name" "_law_is_name" (defArgs Wd.sLName) (defBody Wd.sLName) (defScope Wd.sLName) .none KV22 Dc22 Pm22 An22 Cd22 Ct22), Sl22⟩)
    (D22 : PySem.W.codeIn K Cd22 "_law_is_name" = true)
    (E22 : PySem.W.keepIn K (.ref g22) = true)
    (A23 : PySem.W.nsIn K mainGlobals "_law_is_amount" = some (some (.ref g23)))
    (L23 : K.lookup g23 = some ⟨Oc23, Od23, .func (PySem.W.fnOf "_law_is_amount" "_law_is_amount" (defArgs Wd.sLAmt) (defBody Wd.sLAmt) (defScope Wd.sLAmt) .none KV23 Dc23 Pm23 An23 Cd23 Ct23), Sl23⟩)
    (D23 : PySem.W.codeIn K Cd23 "_law_is_amount" = true)
    (E23 : PySem.W.keepIn K (.ref g23) = true)
    (A24 : PySem.W.nsIn K mainGlobals "_law_wrong" = some (some (.ref g24)))
    (L24 : K.lookup g24 = some ⟨Oc24, Od24, .func (PySem.W.fnOf "_law_wrong" "_law_wrong" (defArgs Fi.sFWrong) (defBody Fi.sFWrong) (defScope Fi.sFWrong) .none KV24 Dc24 Pm24 An24 Cd24 Ct24), Sl24⟩)
    (D24 : PySem.W.codeIn K Cd24 "_law_wrong" = true)
    (E24 : PySem.W.keepIn K (.ref g24) = true)
    (A25 : PySem.W.nsIn K mainGlobals "_law_bent" = some (some (.ref g25)))
    (L25 : K.lookup g25 = some ⟨Oc25, Od25, .func (PySem.W.fnOf "_law_bent" "_law_bent" (defArgs Fi.sBent) (defBody Fi.sBent) (defScope Fi.sBent) .none KV25 Dc25 Pm25 An25 Cd25 Ct25), Sl25⟩)
    (D25 : PySem.W.codeIn K Cd25 "_law_bent" = true)
    (E25 : PySem.W.keepIn K (.ref g25) = true)
    (AP0 : PySem.W.nsIn K mainGlobals "_law_right" = some (some (.ref gP)))
    (LP : K.lookup gP = some ⟨OcP, OdP, .func (PySem.W.fnOf "_law_right" "_law_right" (defArgs Fi.sRight) (defBody Fi.sRight) (defScope Fi.sRight) .none KVP DcP PmP AnP (.ref cP) CtP), SlP⟩)
    (DP : PySem.W.codeIn K (.ref cP) "_law_right" = true)
    (EP : PySem.W.keepIn K (.ref gP) = true)
    (CP : K.lookup cP = some ⟨eP, ddP, .fields vsP, slP⟩)
    (VP : vsP[11]? = some (.ref PP))
    (WP : PySem.W.codeHdIn K cP PP = true)
    (NP : (K.lookup PP).isNone = true)
    (AL0 : PySem.W.nsIn K mainGlobals "law" = some (some (.ref gL)))
    (LL : K.lookup gL = some ⟨OcL, OdL, .func (PySem.W.fnOf "law" "law" (defArgs Fi.sLaw) (defBody Fi.sLaw) (defScope Fi.sLaw) .none KVL DcL PmL AnL (.ref cL) CtL), SlL⟩)
    (DL : PySem.W.codeIn K (.ref cL) "law" = true)
    (EL : PySem.W.keepIn K (.ref gL) = true)
    (CL : K.lookup cL = some ⟨eL, ddL, .fields vsL, slL⟩)
    (VL : vsL[11]? = some (.ref PL))
    (WL : PySem.W.codeHdIn K cL PL = true)
    (NL : (K.lookup PL).isNone = true)
    (NP2 : decide (PP = PL) = false)
    (ALN : PySem.W.nsIn K mainGlobals "LONGEST_NAME" = some (some (.int 8 tL)))
    (ACh : PySem.W.nsIn K mainGlobals "CHUNK" = some (some (.int 64 tK)))
    (ANN : PySem.W.nsIn K mainGlobals "NO_NAMES" = some (some (.ref aN)))
    (LN_ : K.lookup aN = some ⟨.type "tuple", dN, .seq #[Value.str "none" t1, Value.str "self" t2] nN, sN⟩)
    (AF : PySem.W.nsIn K mainGlobals "FillError" = some (some (.ref CF)))
    (AK : PySem.W.nsIn K mainGlobals "BadText" = some (some (.ref CB)))
    (xL : K.lookup CB = some (excClassObj nmE qE CB NE bsE bmE true snE subE abE colE ddE m0E m1E m2E m3E m5E "ValueError.__new__"))
    (hmE : PySem.HandSPX.refsVE bmE = true)
    (aE : PySem.W.findIn K (.ref CB) "__init__" = some (some (.ref fE)))
    (lE : K.lookup fE = some ⟨ocE, odE, .func (PySem.W.fnOf "__init__" "BadText.__init__" (defArgs errM) (defBody errM) (defScope errM) .none kVE dcE pmE anE cdE ctE), slE⟩)
    (cE : PySem.W.codeIn K cdE "BadText.__init__" = true)
    (kE : PySem.W.keepIn K (.ref fE) = true)
    (bE : excB K CF CB fE = true)
    (s_AC : PySem.W.nsIn K mainGlobals "Side" = some (some (.ref CS)))
    (s_a0 : PySem.W.findIn K (.ref CS) "__init__" = some (some (.ref s_f0)))
    (s_n0 : PySem.W.isFn K (.ref s_f0) = true)
    (s_l0 : K.lookup s_f0 = some ⟨s_oc0, s_od0, .func (PySem.W.fnOf "__init__" "Side.__init__" (defArgs (Fk.meth 0)) (defBody (Fk.meth 0)) (defScope (Fk.meth 0)) .none s_kV0 s_dc0 s_pm0 s_an0 s_cd0 s_ct0), s_sl0⟩)
    (s_c0 : PySem.W.codeIn K s_cd0 "Side.__init__" = true)
    (s_k0 : PySem.W.keepIn K (.ref s_f0) = true)
    (s_aR : PySem.W.findCls K (.ref CS) (.type "type") "of" = some (.get (.builtin "classmethod.__get__") (.ref s_pR) .none (.ref CS)))
    (s_rcR : PySem.W.recIn K s_pR "classmethod" = some (.ref s_f1 :: s_rR))
    (s_iR : PySem.W.fnIn K s_f1 = true)
    (s_l1 : K.lookup s_f1 = some ⟨s_oc1, s_od1, .func (PySem.W.fnOf "of" "Side.of" (defArgs (Fk.meth 1)) (defBody (Fk.meth 1)) (defScope (Fk.meth 1)) .none s_kV1 s_dc1 s_pm1 s_an1 s_cd1 s_ct1), s_sl1⟩)
    (s_c1 : PySem.W.codeIn K s_cd1 "Side.of" = true)
    (s_k1 : PySem.W.keepIn K (.ref s_f1) = true)
    (s_pg : PySem.W.plainGet K CS Str.empty = true)
    (s_hd : PySem.W.hasDictIn K CS = true)
    (s_po : PySem.W.plainOver K CS = true)
    (s_sa : PySem.W.findIn K (.ref CS) "__setattr__" = some (some (.builtin "object.__setattr__")))
    (s_mk : PySem.W.makesIn K CS = true)
    (s_kp : PySem.W.keepIn K (.ref CS) = true)
    (s_rd : PySem.W.readsIn K CS (.type "type") = true)
    (s_ga : PySem.W.specialIn K (.ref CS) "__getattribute__" = some (some (.builtin "type.__getattribute__")))
    (s_z0 : PySem.W.findIn K (.ref CS) "names" = some none)
    (s_z1 : PySem.W.findIn K (.ref CS) "total" = some none)
    (s_z2 : PySem.W.findIn K (.ref CS) "_amounts" = some none)
    (s_z3 : PySem.W.findIn K (.ref CS) "_rows" = some none)
    (q_AC : PySem.W.nsIn K mainGlobals "Filling" = some (some (.ref C)))
    (q_a0 : PySem.W.findIn K (.ref C) "__init__" = some (some (.ref q_f0)))
    (q_n0 : PySem.W.isFn K (.ref q_f0) = true)
    (q_l0 : K.lookup q_f0 = some ⟨q_oc0, q_od0, .func (PySem.W.fnOf "__init__" "Filling.__init__" (defArgs Fi.sFI) (defBody Fi.sFI) (defScope Fi.sFI) .none q_kV0 q_dc0 q_pm0 q_an0 q_cd0 q_ct0), q_sl0⟩)
    (q_c0 : PySem.W.codeIn K q_cd0 "Filling.__init__" = true)
    (q_k0 : PySem.W.keepIn K (.ref q_f0) = true)
    (q_a1 : PySem.W.findIn K (.ref C) "__eq__" = some (some (.ref q_f1)))
    (q_n1 : PySem.W.isFn K (.ref q_f1) = true)
    (q_l1 : K.lookup q_f1 = some ⟨q_oc1, q_od1, .func (PySem.W.fnOf "__eq__" "Filling.__eq__" (defArgs Fi.sFEq) (defBody Fi.sFEq) (defScope Fi.sFEq) .none q_kV1 q_dc1 q_pm1 q_an1 q_cd1 q_ct1), q_sl1⟩)
    (q_c1 : PySem.W.codeIn K q_cd1 "Filling.__eq__" = true)
    (q_k1 : PySem.W.keepIn K (.ref q_f1) = true)
    (q_a2 : PySem.W.findIn K (.ref C) "__str__" = some (some (.ref q_f2)))
    (q_n2 : PySem.W.isFn K (.ref q_f2) = true)
    (q_l2 : K.lookup q_f2 = some ⟨q_oc2, q_od2, .func (PySem.W.fnOf "__str__" "Filling.__str__" (defArgs Fi.sFStr) (defBody Fi.sFStr) (defScope Fi.sFStr) .none q_kV2 q_dc2 q_pm2 q_an2 q_cd2 q_ct2), q_sl2⟩)
    (q_c2 : PySem.W.codeIn K q_cd2 "Filling.__str__" = true)
    (q_k2 : PySem.W.keepIn K (.ref q_f2) = true)
    (q_aR : PySem.W.findCls K (.ref C) (.type "type") "read" = some (.get (.builtin "classmethod.__get__") (.ref q_pR) .none (.ref C)))
    (q_rcR : PySem.W.recIn K q_pR "classmethod" = some (.ref q_f3 :: q_rR))
    (q_iR : PySem.W.fnIn K q_f3 = true)
    (q_l3 : K.lookup q_f3 = some ⟨q_oc3, q_od3, .func (PySem.W.fnOf "read" "Filling.read" (defArgs Fi.sFRead) (defBody Fi.sFRead) (defScope Fi.sFRead) .none q_kV3 q_dc3 q_pm3 q_an3 q_cd3 q_ct3), q_sl3⟩)
    (q_c3 : PySem.W.codeIn K q_cd3 "Filling.read" = true)
    (q_k3 : PySem.W.keepIn K (.ref q_f3) = true)
    (q_pg : PySem.W.plainGet K C Str.empty = true)
    (q_hd : PySem.W.hasDictIn K C = true)
    (q_po : PySem.W.plainOver K C = true)
    (q_sa : PySem.W.findIn K (.ref C) "__setattr__" = some (some (.builtin "object.__setattr__")))
    (q_mk : PySem.W.makesIn K C = true)
    (q_kp : PySem.W.keepIn K (.ref C) = true)
    (q_rd : PySem.W.readsIn K C (.type "type") = true)
    (q_ga : PySem.W.specialIn K (.ref C) "__getattribute__" = some (some (.builtin "type.__getattribute__")))
    (q_z0 : PySem.W.findIn K (.ref C) "pairs" = some none)
    (q_z1 : PySem.W.findIn K (.ref C) "by_source" = some none)
    (q_z2 : PySem.W.findIn K (.ref C) "by_use" = some none)
    (q_z3 : PySem.W.findIn K (.ref C) "total" = some none)
    (q_z4 : PySem.W.findIn K (.ref C) "_amounts" = some none)
    (q_z5 : PySem.W.findIn K (.ref C) "_rows" = some none)
    (q_ha : PySem.W.findIn K (.ref C) "__class__" = some (some (.builtin "object.__class__")))
    (q_hn : PySem.W.specialIn K (.builtin "object.__class__") "__get__" = some (some (.builtin "getset_descriptor.__get__")))
    (q_htk : PySem.W.takesIn K (.builtin "object.__class__") = some true)
    (q_hm : PySem.W.mroIn K C (.type "object") = some true)
    (q_ne : PySem.W.findIn K (.ref C) "__ne__" = some (some (.builtin "object.__ne__")))
    (q_ks : decide (PySem.W.kitOne K (.ref C) (.type "str") = some false) = true)
    (AW : PySem.W.nsIn K mainGlobals "Words" = some (some (.ref CW)))
    (wa0 : PySem.W.findIn K (.ref CW) "__init__" = some (some (.ref h0)))
    (wlk0 : K.lookup h0 = some ⟨wc0, wq0, .func (PySem.W.fnOf "__init__" "Words.__init__" (defArgs (Wd.wmeth 0)) (defBody (Wd.wmeth 0)) (defScope (Wd.wmeth 0)) .none wV0 wo0 wp0 wn0 wd0 wt0), wl0⟩)
    (wcd0 : PySem.W.codeIn K wd0 "Words.__init__" = true)
    (wk0 : PySem.W.keepIn K (.ref h0) = true)
    (wf0 : PySem.W.isFn K (.ref h0) = true)
    (wa1 : PySem.W.findIn K (.ref CW) "at_end" = some (some (.ref h1)))
    (wlk1 : K.lookup h1 = some ⟨wc1, wq1, .func (PySem.W.fnOf "at_end" "Words.at_end" (defArgs (Wd.wmeth 1)) (defBody (Wd.wmeth 1)) (defScope (Wd.wmeth 1)) .none wV1 wo1 wp1 wn1 wd1 wt1), wl1⟩)
    (wcd1 : PySem.W.codeIn K wd1 "Words.at_end" = true)
    (wk1 : PySem.W.keepIn K (.ref h1) = true)
    (wf1 : PySem.W.isFn K (.ref h1) = true)
    (wa2 : PySem.W.findIn K (.ref CW) "word_now" = some (some (.ref h2)))
    (wlk2 : K.lookup h2 = some ⟨wc2, wq2, .func (PySem.W.fnOf "word_now" "Words.word_now" (defArgs (Wd.wmeth 2)) (defBody (Wd.wmeth 2)) (defScope (Wd.wmeth 2)) .none wV2 wo2 wp2 wn2 wd2 wt2), wl2⟩)
    (wcd2 : PySem.W.codeIn K wd2 "Words.word_now" = true)
    (wk2 : PySem.W.keepIn K (.ref h2) = true)
    (wf2 : PySem.W.isFn K (.ref h2) = true)
    (wa3 : PySem.W.findIn K (.ref CW) "take_one" = some (some (.ref h3)))
    (wlk3 : K.lookup h3 = some ⟨wc3, wq3, .func (PySem.W.fnOf "take_one" "Words.take_one" (defArgs (Wd.wmeth 3)) (defBody (Wd.wmeth 3)) (defScope (Wd.wmeth 3)) .none wV3 wo3 wp3 wn3 wd3 wt3), wl3⟩)
    (wcd3 : PySem.W.codeIn K wd3 "Words.take_one" = true)
    (wk3 : PySem.W.keepIn K (.ref h3) = true)
    (wf3 : PySem.W.isFn K (.ref h3) = true)
    (wa4 : PySem.W.findIn K (.ref CW) "take_dash" = some (some (.ref h4)))
    (wlk4 : K.lookup h4 = some ⟨wc4, wq4, .func (PySem.W.fnOf "take_dash" "Words.take_dash" (defArgs (Wd.wmeth 4)) (defBody (Wd.wmeth 4)) (defScope (Wd.wmeth 4)) .none wV4 wo4 wp4 wn4 wd4 wt4), wl4⟩)
    (wcd4 : PySem.W.codeIn K wd4 "Words.take_dash" = true)
    (wk4 : PySem.W.keepIn K (.ref h4) = true)
    (wf4 : PySem.W.isFn K (.ref h4) = true)
    (wa5 : PySem.W.findIn K (.ref CW) "take_number" = some (some (.ref h5)))
    (wlk5 : K.lookup h5 = some ⟨wc5, wq5, .func (PySem.W.fnOf "take_number" "Words.take_number" (defArgs (Wd.wmeth 7)) (defBody (Wd.wmeth 7)) (defScope (Wd.wmeth 7)) .none wV5 wo5 wp5 wn5 wd5 wt5), wl5⟩)
    (wcd5 : PySem.W.codeIn K wd5 "Words.take_number" = true)
    (wk5 : PySem.W.keepIn K (.ref h5) = true)
    (wf5 : PySem.W.isFn K (.ref h5) = true)
    (wa6 : PySem.W.findIn K (.ref CW) "take_end" = some (some (.ref h6)))
    (wlk6 : K.lookup h6 = some ⟨wc6, wq6, .func (PySem.W.fnOf "take_end" "Words.take_end" (defArgs (Wd.wmeth 9)) (defBody (Wd.wmeth 9)) (defScope (Wd.wmeth 9)) .none wV6 wo6 wp6 wn6 wd6 wt6), wl6⟩)
    (wcd6 : PySem.W.codeIn K wd6 "Words.take_end" = true)
    (wk6 : PySem.W.keepIn K (.ref h6) = true)
    (wf6 : PySem.W.isFn K (.ref h6) = true)
    (w_pg : PySem.W.plainGet K CW Str.empty = true)
    (w_hd : PySem.W.hasDictIn K CW = true)
    (w_po : PySem.W.plainOver K CW = true)
    (w_sa : PySem.W.findIn K (.ref CW) "__setattr__" = some (some (.builtin "object.__setattr__")))
    (w_nW : PySem.W.findIn K (.ref CW) "words" = some none)
    (w_nA : PySem.W.findIn K (.ref CW) "at" = some none)
    (w_mk : PySem.W.makesIn K CW = true)
    (w_kp : PySem.W.keepIn K (.ref CW) = true)
    (fa_I : PySem.W.nsIn K mainGlobals "is_integer" = some (some (.ref gd_I)))
    (fl_I : K.lookup gd_I = some ⟨oc_I, od_I, .func (PySem.W.fnOf "is_integer" "is_integer" (defArgs Fk.sInteger) (defBody Fk.sInteger) (defScope Fk.sInteger) (.ref T_I) kv_I dc_I pm_I an_I cd_I ct_I), sl_I⟩)
    (fc_I : PySem.W.codeIn K cd_I "is_integer" = true)
    (fk_I : PySem.W.keepIn K (.ref gd_I) = true)
    (ft_I : K.lookup T_I = some ⟨cT_I, dT_I, .seq #[Value.none] nT_I, sT_I⟩)
    (fa_N : PySem.W.findIn K (.ref CW) "take_name" = some (some (.ref gd_N)))
    (ff_N : PySem.W.isFn K (.ref gd_N) = true)
    (fl_N : K.lookup gd_N = some ⟨oc_N, od_N, .func (PySem.W.fnOf "take_name" "Words.take_name" (defArgs (Wd.wmeth 5)) (defBody (Wd.wmeth 5)) (defScope (Wd.wmeth 5)) (.ref T_N) kv_N dc_N pm_N an_N cd_N ct_N), sl_N⟩)
    (fc_N : PySem.W.codeIn K cd_N "Words.take_name" = true)
    (fk_N : PySem.W.keepIn K (.ref gd_N) = true)
    (ft_N : K.lookup T_N = some ⟨cT_N, dT_N, .seq #[Value.str "" ts_N, Value.str "" tu_N] nT_N, sT_N⟩)
    (fa_Q : PySem.W.findIn K (.ref CW) "take_pair" = some (some (.ref gd_Q)))
    (ff_Q : PySem.W.isFn K (.ref gd_Q) = true)
    (fl_Q : K.lookup gd_Q = some ⟨oc_Q, od_Q, .func (PySem.W.fnOf "take_pair" "Words.take_pair" (defArgs (Wd.wmeth 6)) (defBody (Wd.wmeth 6)) (defScope (Wd.wmeth 6)) (.ref T_Q) kv_Q dc_Q pm_Q an_Q cd_Q ct_Q), sl_Q⟩)
    (fc_Q : PySem.W.codeIn K cd_Q "Words.take_pair" = true)
    (fk_Q : PySem.W.keepIn K (.ref gd_Q) = true)
    (ft_Q : K.lookup T_Q = some ⟨cT_Q, dT_Q, .seq #[Value.ref aB] nT_Q, sT_Q⟩)
    (LB_ : K.lookup aB = some ⟨.type "tuple", dB, .seq #[Value.str "" b1_, Value.str "" b2_] nB, sB⟩)
    (z_isinstance : PySem.W.nsIn K mainGlobals "isinstance" = some none)
    (z_int : PySem.W.nsIn K mainGlobals "int" = some none)
    (z_bool : PySem.W.nsIn K mainGlobals "bool" = some none)
    (z_str : PySem.W.nsIn K mainGlobals "str" = some none)
    (z_len : PySem.W.nsIn K mainGlobals "len" = some none)
    (z_sorted : PySem.W.nsIn K mainGlobals "sorted" = some none)
    (z_tuple : PySem.W.nsIn K mainGlobals "tuple" = some none)
    (z_sum : PySem.W.nsIn K mainGlobals "sum" = some none)
    (z_list : PySem.W.nsIn K mainGlobals "list" = some none)
    (z_dict : PySem.W.nsIn K mainGlobals "dict" = some none)
    (z_range : PySem.W.nsIn K mainGlobals "range" = some none)
    (z_abs : PySem.W.nsIn K mainGlobals "abs" = some none)
    (z_divmod : PySem.W.nsIn K mainGlobals "divmod" = some none) : AtG l w K 14 63 "script" mg fa h := by
  subst hl
  have e := hfa.symm.trans (PySem.W.mg_of X G AL0)
  cases e
  have F0 := fun_mk (st := Fk.sAmount) L0 D0 E0
  have b0 := F0.binds (ps := ["value"]) fun _ _ _ _ _ _ us hl => match us, hl with | [_], _ => rfl
  have F1 := fun_mk (st := Fk.sName) L1 D1 E1
  have b1 := F1.binds (ps := ["value"]) fun _ _ _ _ _ _ us hl => match us, hl with | [_], _ => rfl
  have F2 := fun_mk (st := Fk.sNames) L2 D2 E2
  have b2 := F2.binds (ps := ["values"]) fun _ _ _ _ _ _ us hl => match us, hl with | [_], _ => rfl
  have F3 := fun_mk (st := Fk.sNum) L3 D3 E3
  have b3 := F3.binds (ps := ["number"]) fun _ _ _ _ _ _ us hl => match us, hl with | [_], _ => rfl
  have F4 := fun_mk (st := Fk.sAmounts) L4 D4 E4
  have b4 := F4.binds (ps := ["values"]) fun _ _ _ _ _ _ us hl => match us, hl with | [_], _ => rfl
  have F5 := fun_mk (st := Fk.sPair) L5 D5 E5
  have b5 := F5.binds (ps := ["value"]) fun _ _ _ _ _ _ us hl => match us, hl with | [_], _ => rfl
  have F6 := fun_mk (st := Tb.sAsc) L6 D6 E6
  have b6 := F6.binds (ps := ["values"]) fun _ _ _ _ _ _ us hl => match us, hl with | [_], _ => rfl
  have F7 := fun_mk (st := Wd.sNumOf) L7 D7 E7
  have b7 := F7.binds (ps := ["word"]) fun _ _ _ _ _ _ us hl => match us, hl with | [_], _ => rfl
  have F8 := fun_mk (st := Wd.sIsNum) L8 D8 E8
  have b8 := F8.binds (ps := ["word"]) fun _ _ _ _ _ _ us hl => match us, hl with | [_], _ => rfl
  have F9 := fun_mk (st := Fi.sChk) L9 D9 E9
  have b9 := F9.binds (ps := ["amounts"]) fun _ _ _ _ _ _ us hl => match us, hl with | [_], _ => rfl
  have F10 := fun_mk (st := Fi.sSums) L10 D10 E10
  have b10 := F10.binds (ps := ["amounts", "end"]) fun _ _ _ _ _ _ us hl => match us, hl with | [_, _], _ => rfl
  have F11 := fun_mk (st := Fi.sTF) L11 D11 E11
  have b11 := F11.binds (ps := ["words"]) fun _ _ _ _ _ _ us hl => match us, hl with | [_], _ => rfl
  have F12 := fun_mk (st := K17.sPen) L12 D12 E12
  have b12 := F12.binds (ps := ["script"]) fun _ _ _ _ _ _ us hl => match us, hl with | [_], _ => rfl
  have F13 := fun_mk (st := K17.sDraw) L13 D13 E13
  have b13 := F13.binds (ps := ["pen", "many"]) fun _ _ _ _ _ _ us hl => match us, hl with | [_, _], _ => rfl
  have F14 := fun_mk (st := K17.sPick) L14 D14 E14
  have b14 := F14.binds (ps := ["pen", "some"]) fun _ _ _ _ _ _ us hl => match us, hl with | [_, _], _ => rfl
  have F15 := fun_mk (st := K17.sAmount) L15 D15 E15
  have b15 := F15.binds (ps := ["pen"]) fun _ _ _ _ _ _ us hl => match us, hl with | [_], _ => rfl
  have F16 := fun_mk (st := Fi.sCross) L16 D16 E16
  have b16 := F16.binds (ps := ["ones", "twos"]) fun _ _ _ _ _ _ us hl => match us, hl with | [_, _], _ => rfl
  have F17 := fun_mk (st := Fi.sCells) L17 D17 E17
  have b17 := F17.binds (ps := ["pen"]) fun _ _ _ _ _ _ us hl => match us, hl with | [_], _ => rfl
  have F18 := fun_mk (st := Fi.sPlain) L18 D18 E18
  have b18 := F18.binds (ps := ["pen", "cells"]) fun _ _ _ _ _ _ us hl => match us, hl with | [_, _], _ => rfl
  have F19 := fun_mk (st := Fi.sTold) L19 D19 E19
  have b19 := F19.binds (ps := ["plain"]) fun _ _ _ _ _ _ us hl => match us, hl with | [_], _ => rfl
  have F20 := fun_mk (st := Fi.sLine) L20 D20 E20
  have b20 := F20.binds (ps := ["plain"]) fun _ _ _ _ _ _ us hl => match us, hl with | [_], _ => rfl
  have F21 := fun_mk (st := Fi.sHeard) L21 D21 E21
  have b21 := F21.binds (ps := ["ask"]) fun _ _ _ _ _ _ us hl => match us, hl with | [_], _ => rfl
  have F22 := fun_mk (st := Wd.sLName) L22 D22 E22
  have b22 := F22.binds (ps := ["word"]) fun _ _ _ _ _ _ us hl => match us, hl with | [_], _ => rfl
  have F23 := fun_mk (st := Wd.sLAmt) L23 D23 E23
  have b23 := F23.binds (ps := ["word"]) fun _ _ _ _ _ _ us hl => match us, hl with | [_], _ => rfl
  have F24 := fun_mk (st := Fi.sFWrong) L24 D24 E24
  have b24 := F24.binds (ps := ["line"]) fun _ _ _ _ _ _ us hl => match us, hl with | [_], _ => rfl
  have F25 := fun_mk (st := Fi.sBent) L25 D25 E25
  have b25 := F25.binds (ps := ["pen", "line"]) fun _ _ _ _ _ _ us hl => match us, hl with | [_, _], _ => rfl
  have s_M0 := fun_mk (st := (Fk.meth 0)) s_l0 s_c0 s_k0
  have s_M1 := fun_mk (st := (Fk.meth 1)) s_l1 s_c1 s_k1
  have s_d1 := s_M1.binds (ps := ["cls", "amounts"]) fun _ _ _ _ _ _ us hl => match us, hl with | [_, _], _ => rfl
  have q_M0 := fun_mk (st := Fi.sFI) q_l0 q_c0 q_k0
  have q_d0 := q_M0.binds (ps := ["self", "amounts"]) fun _ _ _ _ _ _ us hl => match us, hl with | [_, _], _ => rfl
  have q_M1 := fun_mk (st := Fi.sFEq) q_l1 q_c1 q_k1
  have q_d1 := q_M1.binds (ps := ["self", "other"]) fun _ _ _ _ _ _ us hl => match us, hl with | [_, _], _ => rfl
  have q_M2 := fun_mk (st := Fi.sFStr) q_l2 q_c2 q_k2
  have q_d2 := q_M2.binds (ps := ["self"]) fun _ _ _ _ _ _ us hl => match us, hl with | [_], _ => rfl
  have q_M3 := fun_mk (st := Fi.sFRead) q_l3 q_c3 q_k3
  have q_d3 := q_M3.binds (ps := ["cls", "text"]) fun _ _ _ _ _ _ us hl => match us, hl with | [_, _], _ => rfl
  have W0 := fun_mk (st := Wd.wmeth 0) wlk0 wcd0 wk0
  have wb0 := W0.binds (ps := ["self", "text"]) fun _ _ _ _ _ _ us hl => match us, hl with | [_, _], _ => rfl
  have W1 := fun_mk (st := Wd.wmeth 1) wlk1 wcd1 wk1
  have wb1 := W1.binds (ps := ["self"]) fun _ _ _ _ _ _ us hl => match us, hl with | [_], _ => rfl
  have W2 := fun_mk (st := Wd.wmeth 2) wlk2 wcd2 wk2
  have wb2 := W2.binds (ps := ["self"]) fun _ _ _ _ _ _ us hl => match us, hl with | [_], _ => rfl
  have W3 := fun_mk (st := Wd.wmeth 3) wlk3 wcd3 wk3
  have wb3 := W3.binds (ps := ["self", "choices"]) fun _ _ _ _ _ _ us hl => match us, hl with | [_, _], _ => rfl
  have W4 := fun_mk (st := Wd.wmeth 4) wlk4 wcd4 wk4
  have wb4 := W4.binds (ps := ["self"]) fun _ _ _ _ _ _ us hl => match us, hl with | [_], _ => rfl
  have W5 := fun_mk (st := Wd.wmeth 7) wlk5 wcd5 wk5
  have wb5 := W5.binds (ps := ["self", "least"]) fun _ _ _ _ _ _ us hl => match us, hl with | [_, _], _ => rfl
  have W6 := fun_mk (st := Wd.wmeth 9) wlk6 wcd6 wk6
  have wb6 := W6.binds (ps := ["self"]) fun _ _ _ _ _ _ us hl => match us, hl with | [_], _ => rfl
  have FD_I : FunD K "is_integer" "is_integer" (defArgs Fk.sInteger) (defBody Fk.sInteger) (defScope Fk.sInteger) [.non] [] gd_I (PySem.W.fnOf "is_integer" "is_integer" (defArgs Fk.sInteger) (defBody Fk.sInteger) (defScope Fk.sInteger) (.ref T_I) kv_I dc_I pm_I an_I cd_I ct_I) := ⟨⟨oc_I, od_I, .ref T_I, kv_I, dc_I, pm_I, an_I, cd_I, ct_I, sl_I, rfl, fl_I, fc_I, .inr ⟨by simp, T_I, _, [Value.none], nT_I, rfl, ft_I, rfl, .cons rfl .nil⟩, .inl rfl⟩, fk_I⟩
  have bd_I : Binds K (PySem.W.fnOf "is_integer" "is_integer" (defArgs Fk.sInteger) (defBody Fk.sInteger) (defScope Fk.sInteger) (.ref T_I) kv_I dc_I pm_I an_I cd_I ct_I) ["value", "least"] [] := by
    obtain ⟨ds, rd, bd⟩ := FD_I.binds1 (ps := ["value", "least"]) 2 1 (by simp) rfl fun T kV doc pm an cdv ct us its hu hi => match us, its, hu, hi with | [_, _], [_], _, _ => ⟨_, rfl, rfl⟩
    cases rd
    exact bd
  have FD_N : FunD K "take_name" "Words.take_name" (defArgs (Wd.wmeth 5)) (defBody (Wd.wmeth 5)) (defScope (Wd.wmeth 5)) [.str "", .str ""] [] gd_N (PySem.W.fnOf "take_name" "Words.take_name" (defArgs (Wd.wmeth 5)) (defBody (Wd.wmeth 5)) (defScope (Wd.wmeth 5)) (.ref T_N) kv_N dc_N pm_N an_N cd_N ct_N) := ⟨⟨oc_N, od_N, .ref T_N, kv_N, dc_N, pm_N, an_N, cd_N, ct_N, sl_N, rfl, fl_N, fc_N, .inr ⟨by simp, T_N, _, [Value.str "" ts_N, Value.str "" tu_N], nT_N, rfl, ft_N, rfl, .cons ⟨ts_N, rfl⟩ (.cons ⟨tu_N, rfl⟩ .nil)⟩, .inl rfl⟩, fk_N⟩
  have bd_N : Binds K (PySem.W.fnOf "take_name" "Words.take_name" (defArgs (Wd.wmeth 5)) (defBody (Wd.wmeth 5)) (defScope (Wd.wmeth 5)) (.ref T_N) kv_N dc_N pm_N an_N cd_N ct_N) ["self", "least", "behind"] [] := by
    obtain ⟨ds, rd, bd⟩ := FD_N.binds1 (ps := ["self", "least", "behind"]) 3 2 (by simp) rfl fun T kV doc pm an cdv ct us its hu hi => match us, its, hu, hi with | [_, _, _], [_, _], _, _ => ⟨_, rfl, rfl⟩
    cases rd
    exact bd
  obtain ⟨ds_N2, rd_N2, bd_N2⟩ := FD_N.binds1 (ps := ["self", "least", "behind"]) 2 1 (by simp) rfl fun T kV doc pm an cdv ct us its hu hi => match us, its, hu, hi with | [_, _], [_, _], _, _ => ⟨_, rfl, rfl⟩
  obtain ⟨ds_N1, rd_N1, bd_N1⟩ := FD_N.binds1 (ps := ["self", "least", "behind"]) 1 0 (by simp) rfl fun T kV doc pm an cdv ct us its hu hi => match us, its, hu, hi with | [_], [_, _], _, _ => ⟨_, rfl, rfl⟩
  have FD_Q : FunD K "take_pair" "Words.take_pair" (defArgs (Wd.wmeth 6)) (defBody (Wd.wmeth 6)) (defScope (Wd.wmeth 6)) [.ref aB] [] gd_Q (PySem.W.fnOf "take_pair" "Words.take_pair" (defArgs (Wd.wmeth 6)) (defBody (Wd.wmeth 6)) (defScope (Wd.wmeth 6)) (.ref T_Q) kv_Q dc_Q pm_Q an_Q cd_Q ct_Q) := ⟨⟨oc_Q, od_Q, .ref T_Q, kv_Q, dc_Q, pm_Q, an_Q, cd_Q, ct_Q, sl_Q, rfl, fl_Q, fc_Q, .inr ⟨by simp, T_Q, _, [Value.ref aB], nT_Q, rfl, ft_Q, rfl, .cons rfl .nil⟩, .inl rfl⟩, fk_Q⟩
  have bd_Q : Binds K (PySem.W.fnOf "take_pair" "Words.take_pair" (defArgs (Wd.wmeth 6)) (defBody (Wd.wmeth 6)) (defScope (Wd.wmeth 6)) (.ref T_Q) kv_Q dc_Q pm_Q an_Q cd_Q ct_Q) ["self", "behind"] [] := by
    obtain ⟨ds, rd, bd⟩ := FD_Q.binds1 (ps := ["self", "behind"]) 2 1 (by simp) rfl fun T kV doc pm an cdv ct us its hu hi => match us, its, hu, hi with | [_, _], [_], _, _ => ⟨_, rfl, rfl⟩
    cases rd
    exact bd
  obtain ⟨ds_Q1, rd_Q1, bd_Q1⟩ := FD_Q.binds1 (ps := ["self", "behind"]) 1 0 (by simp) rfl fun T kV doc pm an cdv ct us its hu hi => match us, its, hu, hi with | [_], [_], _, _ => ⟨_, rfl, rfl⟩
  have m : ∀ {x : Str} {v : Value}, PySem.W.nsIn K mainGlobals x = some (some v) → mg x = some v := fun h => PySem.W.mg_of X G h
  have z : ∀ {x : Str}, PySem.W.nsIn K mainGlobals x = some none → mg x = none := fun h => PySem.W.mg_none_of X G h
  have B : Fk.Blt mg := ⟨z z_isinstance, z z_int, z z_bool, z z_str, z z_len⟩
  have T2 : Fk.Blt2 mg := ⟨z z_sorted, z z_tuple, z z_sum⟩
  have T3 : K17.Blt mg := ⟨z z_int, z z_len, z z_abs, z z_list⟩
  have R : Fk.BltR mg := ⟨z z_list, z z_tuple⟩
  have gS := m s_AC
  have gF := m q_AC
  have hN : ∀ H, SqT K H aN [.str "none", .str "self"] := fun H => .inr ⟨_, _, _, LN_, rfl, rfl, by show 2 ≤ sizeLine; decide, .cons ⟨t1, rfl⟩ (.cons ⟨t2, rfl⟩ .nil)⟩
  have hB : ∀ H, SqT K H aB [.str "", .str ""] := fun H => .inr ⟨_, _, _, LB_, rfl, rfl, by show 2 ≤ sizeLine; decide, .cons ⟨b1_, rfl⟩ (.cons ⟨b2_, rfl⟩ .nil)⟩
  have SS : SideC K CS := ⟨⟨s_pg, s_hd, s_po, s_sa⟩, s_z0, s_z1, s_z2, s_z3⟩
  have S : FilC K C := ⟨⟨q_pg, q_hd, q_po, q_sa⟩, q_z0, q_z1, q_z2, q_z3, q_z4, q_z5⟩
  have SI : SideI K C := ⟨q_ha, q_hn, q_htk, q_hm⟩
  have SW : WdC K CW := ⟨⟨w_pg, w_hd, w_po, w_sa⟩, w_nW, w_nA⟩
  -- the error's class
  obtain ⟨u1, bE⟩ := and2 bE
  obtain ⟨u2, bE⟩ := and2 bE
  obtain ⟨u3, bE⟩ := and2 bE
  obtain ⟨u4, bE⟩ := and2 bE
  obtain ⟨u5, bE⟩ := and2 bE
  obtain ⟨u6, bE⟩ := and2 bE
  obtain ⟨u7, bE⟩ := and2 bE
  obtain ⟨u8, bE⟩ := and2 bE
  obtain ⟨u9, bE⟩ := and2 bE
  obtain ⟨u10, bE⟩ := and2 bE
  obtain ⟨u11, bE⟩ := and2 bE
  obtain ⟨u12, bE⟩ := and2 bE
  obtain ⟨u13, bE⟩ := and2 bE
  obtain ⟨u14, bE⟩ := and2 bE
  obtain ⟨u15, u16⟩ := and2 bE
  have ME := fun_mk (st := errM) lE cE kE
  have dE := ME.binds (ps := ["self", "line", "word"]) fun _ _ _ _ _ _ us hl => match us, hl with | [_, _, _], _ => rfl
  have oex : OexC K CB := ⟨⟨nmE, qE, NE, bsE, bmE, snE, subE, abE, colE, ddE, m0E, m1E, m2E, m3E, m5E, xL, hmE⟩, of_decide_eq_true u11, of_decide_eq_true u3, of_decide_eq_true u9, u10⟩
  have exc : ExcC K CB := ⟨of_decide_eq_true u1, of_decide_eq_true u2, of_decide_eq_true u3, u4, of_decide_eq_true u5, of_decide_eq_true u6, of_decide_eq_true u7, of_decide_eq_true u8⟩
  have xfc : XfC K CB := ⟨of_decide_eq_true u1, of_decide_eq_true u2, of_decide_eq_true u3, u4⟩
  have BX : BadX K mg CF CB := ⟨m AF, m AK, of_decide_eq_true u15, exc, xfc, of_decide_eq_true u13, of_decide_eq_true u14, of_decide_eq_true u16⟩
  -- the tables
  have nPL : PP ≠ PL := of_decide_eq_false NP2
  have tabP := own "_law_right" (by simp) gP (m AP0) cP PP _ _ _ _ _ _ LP rfl rfl CP VP
  have tabL := own "law" (by simp) fa (m AL0) cL PL _ _ _ _ _ _ LL rfl rfl CL VL
  refine ⟨PySem.W.fnOf "law" "law" (defArgs Fi.sLaw) (defBody Fi.sLaw) (defScope Fi.sLaw) .none KVL DcL PmL AnL (.ref cL) CtL, [(cP, PP), (cL, PL)], spLaw K [(PP, nmR), (PL, nmL)], fun p hp => ?_, fun p hp => ?_, fun p hp => ?_, fun s v => .of_eq rfl, fun H a ns ln hH hS => ?_, fun base _ _ TB => ?_⟩
  · simp only [List.mem_cons, List.not_mem_nil, or_false] at hp
    rcases hp with rfl | rfl
    · exact tabP
    · exact tabL
  · simp only [List.mem_cons, List.not_mem_nil, or_false] at hp
    rcases hp with rfl | rfl
    · exact Option.isNone_iff_eq_none.mp NP
    · exact Option.isNone_iff_eq_none.mp NL
  · simp only [List.mem_cons, List.not_mem_nil, or_false] at hp
    rcases hp with rfl | rfl
    · exact PySem.W.codeHd_of_K X WP
    · exact PySem.W.codeHd_of_K X WL
  · refine ⟨a, ns, rfl, hS, ln, fun p hp => ?_, fun _ => rfl⟩
    simp only [List.mem_cons, List.not_mem_nil, or_false] at hp
    rcases hp with rfl | rfl
    · exact TabS.nil (hH (cP, PP) (by simp))
    · exact TabS.nil (hH (cL, PL) (by simp))
  have LB : BadC l.prog w K mg base CB fE _ := ⟨oex, aE, of_decide_eq_true u12, of_decide_eq_true u13, of_decide_eq_true u14, ok_init2 ME rfl scErr (fun _ => rfl) (fun _ => rfl) rfl rfl rfl rfl, dE, m AK⟩
  have okI := ok_integer (P := l.prog) (w := w) (base := base) (mg := mg) FD_I B
  have okA := Fk.ok_amount (P := l.prog) (w := w) (base := base) F0 okI bd_I (m fa_I) fk_I
  have okN := ok_name (tN := 0) (P := l.prog) (w := w) (base := base) F1 B (m ALN) (m ANN) hN
  have okNs := Fk.ok_names (P := l.prog) (w := w) (base := base) F2 okN b1 (m A1) E1
  have okNum := ok_num (P := l.prog) (w := w) (base := base) F3 B (z z_divmod) (m ACh)
  have okAs := ok_amounts (P := l.prog) (w := w) (base := base) F4 okA b0 (m A0) E0
  have okP := Tb.ok_pair (P := l.prog) (w := w) (base := base) F5 B R okN b1 (m A1) E1
  have okAsc := Tb.ok_asc (P := l.prog) (w := w) (base := base) F6 B T2
  have okNo := ok_numOf (P := l.prog) (w := w) (base := base) F7 B (z z_range) (m ACh)
  have okIn := ok_isNum (P := l.prog) (w := w) (base := base) (mg := mg) F8
  -- Words
  have e1 : Meth K CW "at_end" h1 := ⟨wa1, wf1, wk1⟩
  have e2 : Meth K CW "word_now" h2 := ⟨wa2, wf2, wk2⟩
  have e3 : Meth K CW "take_one" h3 := ⟨wa3, wf3, wk3⟩
  have e4 : Meth K CW "take_dash" h4 := ⟨wa4, wf4, wk4⟩
  have e5 : Meth K CW "take_number" h5 := ⟨wa5, wf5, wk5⟩
  have e6 : Meth K CW "take_end" h6 := ⟨wa6, wf6, wk6⟩
  have eN : Meth K CW "take_name" gd_N := ⟨fa_N, ff_N, fk_N⟩
  have eQ : Meth K CW "take_pair" gd_Q := ⟨fa_Q, ff_Q, fk_Q⟩
  have wEnd := ok_atEnd (P := l.prog) (w := w) (base := base) W1 SW B
  have wNow := ok_now (P := l.prog) (w := w) (base := base) (mg := mg) W2 SW e1 wEnd wb1
  have wOne := ok_tone (P := l.prog) (w := w) (base := base) W3 SW LB e2 wNow wb2
  have wDash := ok_dash (P := l.prog) (w := w) (base := base) (mg := mg) W4 SW e2 wNow wb2
  have wName := ok_tnameG (P := l.prog) (w := w) (base := base) FD_N SW LB e2 wNow wb2 okN b1 (m A1) E1
  have wPair := ok_tpair (P := l.prog) (w := w) (base := base) FD_Q SW eN wName rd_N2 rd_N1 bd_N bd_N2 bd_N1
  have wNum := ok_tnum (P := l.prog) (w := w) (base := base) W5 SW LB e2 wNow wb2 okIn b8 (m A8) E8 okNo b7 (m A7) E7
  have wEnd2 := ok_tend (P := l.prog) (w := w) (base := base) W6 SW LB e1 wEnd wb1
  have wInit := ok_winit (P := l.prog) (w := w) (base := base) W0 SW B LB
  have mkW : Mk K CW h0 := ⟨w_mk, wa0, wf0, w_kp⟩
  have oTake := ok_filled (P := l.prog) (w := w) (base := base) F11 SW e4 wDash wb4 eQ wPair bd_Q rd_Q1 bd_Q1 hB e5 wNum wb5 e3 wOne wb3 e1 wEnd wb1
  -- Side
  have mkS : Mk K CS s_f0 := ⟨s_mk, s_a0, s_n0, s_kp⟩
  have oInit := ok_init (P := l.prog) (w := w) (base := base) s_M0 SS B T2 okNs b2 (m A2) E2 okAs b4 (m A4) E4
  have oOf := Fk.ok_of (P := l.prog) (w := w) (base := base) s_M1 B (z z_dict) (z z_list) okNs b2 (m A2) E2 okAs b4 (m A4) E4 mkS oInit gS
  have rS : ClX.CRead K CS (.type "type") := ⟨s_rd, s_ga⟩
  have cmS : ClX.CMet K CS (.type "type") "of" s_pR s_f1 := ⟨s_aR, ⟨s_rR, s_rcR⟩, s_iR⟩
  have oSums := ok_sums (P := l.prog) (w := w) (base := base) F10 gS s_kp rS cmS oOf s_d1
  -- Filling
  have oChk := ok_chk (P := l.prog) (w := w) (base := base) F9 B (z z_dict) okP b5 (m A5) E5 okA b0 (m A0) E0
  have mk : Mk K C q_f0 := ⟨q_mk, q_a0, q_n0, q_kp⟩
  have oIni := ok_finit (P := l.prog) (w := w) (base := base) q_M0 S B T2 oChk b9 (m A9) E9 okAsc b6 (m A6) E6 oSums b10 (m A10) E10
  have oEq := ok_feq (CS := CS) (P := l.prog) (w := w) (base := base) q_M1 S SI B gF
  have oStr := ok_fstr (CS := CS) (P := l.prog) (w := w) (base := base) q_M2 S okNum b3 (m A3) E3
  have r : ClX.CRead K C (.type "type") := ⟨q_rd, q_ga⟩
  have cr : ClX.CMet K C (.type "type") "read" q_pR q_f3 := ⟨q_aR, ⟨q_rR, q_rcR⟩, q_iR⟩
  have oRead := ok_fread (P := l.prog) (w := w) (base := base) q_M3 SW mkW wInit wb0 (m AW) oTake b11 (m A11) E11 e6 wEnd2 wb6 mk oIni q_d0
  have kR : KBinds K (PySem.W.fnOf "read" "Filling.read" (defArgs Fi.sFRead) (defBody Fi.sFRead) (defScope Fi.sFRead) .none q_kV3 q_dc3 q_pm3 q_an3 q_cd3 q_ct3) ["cls", "text"] ["text"] kwA kwA := ⟨fun s us ws X' hl => match us, ws, hl with | [_], [_], _ => .of_eq rfl, fun {vs us zs ws} r1 r2 => by
    cases r1 with
    | nil => exact .nil
    | cons x1 x2 =>
      cases x2 with
      | cons _ _ => cases r2 <;> exact .nil
      | nil =>
        cases r2 with
        | nil => exact .nil
        | cons y1 y2 =>
          cases y2 with
          | cons _ _ => exact .nil
          | nil => exact .cons x1 (.cons y1 .nil)⟩
  let MR : FilR l.prog w K mg base CS C CB := { S := S, SI := SI, gF := gF, fS := q_f2, dS := _, str := ⟨q_a2, q_n2, oStr, q_d2⟩, mc := .type "type", r := r, pR := q_pR, fR := q_f3, dR := _, cR := cr, read := oRead, bR := q_d3 }
  have MW : FilW l.prog w K mg base CS C CB MR := { fE := q_f1, dE := _, eq := ⟨q_a1, q_n1, oEq, q_d1⟩, ne := q_ne, mro := q_hm, bRK := kR, fN := q_f0, dN := _, mkC := mk, ini := oIni, bN := q_d0, kS := of_decide_eq_true q_ks }
  have HD : HeardD K mg CF CB := { X := BX, g := g21, fd := _, F := F21, b := b21, gH := m A21, kH := E21 }
  -- the law's own
  have dDraw := K17.ok_draw (P := l.prog) (w := w) (base := base) F13 T3
  have dPick := K17.ok_pick (P := l.prog) (w := w) (base := base) F14 T3 dDraw b13 (m A13) E13
  have dAmt := K17.ok_amount (P := l.prog) (w := w) (base := base) F15 dPick b14 (m A14) E14 dDraw b13 (m A13) E13
  have dCross := ok_cross (P := l.prog) (w := w) (base := base) (mg := mg) F16
  have dCells := ok_cells (P := l.prog) (w := w) (base := base) F17 T3 dDraw b13 (m A13) E13 dPick b14 (m A14) E14 dCross b16 (m A16) E16
  have dPlain := ok_plainF (P := l.prog) (w := w) (base := base) F18 (z z_dict) dDraw b13 (m A13) E13 dAmt b15 (m A15) E15
  have dTold := ok_toldF (P := l.prog) (w := w) (base := base) F19 (z z_sorted) (z z_str) (z z_tuple)
  have dLine := ok_lineF (P := l.prog) (w := w) (base := base) F20 (z z_str) dTold b19 (m A19) E19
  have dName := ok_lname (P := l.prog) (w := w) (base := base) F22 B
  have dAmtL := ok_lamt (P := l.prog) (w := w) (base := base) (mg := mg) F23
  have dWrong := ok_fwrong (P := l.prog) (w := w) (base := base) F24 B (z z_range) dName b22 (m A22) E22 dAmtL b23 (m A23) E23
  have dBent := ok_bent (P := l.prog) (w := w) (base := base) F25 B dDraw b13 (m A13) E13 dPick b14 (m A14) E14
  have FP : FunC K "_law_right" "_law_right" Fi.sRight gP cP _ := ⟨⟨_, _, _, _, _, _, _, _, rfl, LP, DP⟩, EP⟩
  have bP : Binds K _ ["line"] [] := (fun_mk (st := Fi.sRight) LP DP EP).binds (ps := ["line"]) fun _ _ _ _ _ _ us hl => match us, hl with | [_], _ => rfl
  have FL : FunC K "law" "law" Fi.sLaw fa cL _ := ⟨⟨_, _, _, _, _, _, _, _, rfl, LL, DL⟩, EL⟩
  have uP : ∀ p ∈ ([(PP, nmR), (PL, nmL)] : List (Addr × Str)), p.1 = PP → p.2 = nmR := fun p hp e => by
    simp only [List.mem_cons, List.not_mem_nil, or_false] at hp
    rcases hp with rfl | rfl
    · rfl
    · exact absurd e.symm nPL
  have uL : ∀ p ∈ ([(PP, nmR), (PL, nmL)] : List (Addr × Str)), p.1 = PL → p.2 = nmL := fun p hp e => by
    simp only [List.mem_cons, List.not_mem_nil, or_false] at hp
    rcases hp with rfl | rfl
    · exact absurd e nPL
    · rfl
  have dRight := ok_rightF (P := l.prog) (w := w) (base := base) (T := [(PP, nmR), (PL, nmL)]) FP MR B (z z_list) HD ⟨_, _, dWrong, b24, m A24, E24⟩ (TB (cP, PP) (by simp)) (by simp) uP
  exact ok_lawF FL MR MW (z z_range) B HD ⟨_, _, K17.ok_pen (P := l.prog) (w := w) (base := base) F12 T3, b12, m A12, E12⟩ ⟨_, _, dCells, b17, m A17, E17⟩ ⟨_, _, dPlain, b18, m A18, E18⟩ ⟨_, _, dLine, b20, m A20, E20⟩ ⟨_, _, dPick, b14, m A14, E14⟩ ⟨_, _, dBent, b25, m A25, E25⟩ dRight bP (m AP0) EP (TB (cL, PL) (by simp)) (by simp) uL
end Fi

set_option Elab.async false
set_option linter.all false
open PySem PySem.W PyProof.Rows
set_option maxRecDepth 100000 in
set_option maxHeartbeats 0 in
theorem PySem.Challenge.cw_filledrow_k17_texts_of_fillings_holds : PySem.Challenge.rw_filledrow_k17_texts_of_fillings.Holds := by
  w_on; o_law; k_head; (case hw => w_witness2)
  k_fill
  refine XT.walk_tabs (l := PySem.Challenge.rw_filledrow_k17_texts_of_fillings) (n := 63) (k := 14) (x := "script") ["_law_right", "law"] rfl (by decide) rfl ⟨rfl, by decide, by decide⟩ (by decide +kernel) (fun w h Y => PySem.W.km_in_of Y) ?F
  case F =>
    intro w mg fa h Y KX G hmg own
    refine' Fi.all_mk rfl KX G hmg own ?A0 ?L0 ?D0 ?E0 ?A1 ?L1 ?D1 ?E1 ?A2 ?L2 ?D2 ?E2 ?A3 ?L3 ?D3 ?E3 ?A4 ?L4 ?D4 ?E4 ?A5 ?L5 ?D5 ?E5 ?A6 ?L6 ?D6 ?E6 ?A7 ?L7 ?D7 ?E7 ?A8 ?L8 ?D8 ?E8 ?A9 ?L9 ?D9 ?E9 ?A10 ?L10 ?D10 ?E10 ?A11 ?L11 ?D11 ?E11 ?A12 ?L12 ?D12 ?E12 ?A13 ?L13 ?D13 ?E13 ?A14 ?L14 ?D14 ?E14 ?A15 ?L15 ?D15 ?E15 ?A16 ?L16 ?D16 ?E16 ?A17 ?L17 ?D17 ?E17 ?A18 ?L18 ?D18 ?E18 ?A19 ?L19 ?D19 ?E19 ?A20 ?L20 ?D20 ?E20 ?A21 ?L21 ?D21 ?E21 ?A22 ?L22 ?D22 ?E22 ?A23 ?L23 ?D23 ?E23 ?A24 ?L24 ?D24 ?E24 ?A25 ?L25 ?D25 ?E25 ?AP0 ?LP ?DP ?EP ?CP ?VP ?WP ?NP ?AL0 ?LL ?DL ?EL ?CL ?VL ?WL ?NL ?NP2 ?ALN ?ACh ?ANN ?LN_ ?AF ?AK ?xL ?hmE ?aE ?lE ?cE ?kE ?bE ?s_AC ?s_a0 ?s_n0 ?s_l0 ?s_c0 ?s_k0 ?s_aR ?s_rcR ?s_iR ?s_l1 ?s_c1 ?s_k1 ?s_pg ?s_hd ?s_po ?s_sa ?s_mk ?s_kp ?s_rd ?s_ga ?s_z0 ?s_z1 ?s_z2 ?s_z3 ?q_AC ?q_a0 ?q_n0 ?q_l0 ?q_c0 ?q_k0 ?q_a1 ?q_n1 ?q_l1 ?q_c1 ?q_k1 ?q_a2 ?q_n2 ?q_l2 ?q_c2 ?q_k2 ?q_aR ?q_rcR ?q_iR ?q_l3 ?q_c3 ?q_k3 ?q_pg ?q_hd ?q_po ?q_sa ?q_mk ?q_kp ?q_rd ?q_ga ?q_z0 ?q_z1 ?q_z2 ?q_z3 ?q_z4 ?q_z5 ?q_ha ?q_hn ?q_htk ?q_hm ?q_ne ?q_ks ?AW ?wa0 ?wlk0 ?wcd0 ?wk0 ?wf0 ?wa1 ?wlk1 ?wcd1 ?wk1 ?wf1 ?wa2 ?wlk2 ?wcd2 ?wk2 ?wf2 ?wa3 ?wlk3 ?wcd3 ?wk3 ?wf3 ?wa4 ?wlk4 ?wcd4 ?wk4 ?wf4 ?wa5 ?wlk5 ?wcd5 ?wk5 ?wf5 ?wa6 ?wlk6 ?wcd6 ?wk6 ?wf6 ?w_pg ?w_hd ?w_po ?w_sa ?w_nW ?w_nA ?w_mk ?w_kp ?fa_I ?fl_I ?fc_I ?fk_I ?ft_I ?fa_N ?ff_N ?fl_N ?fc_N ?fk_N ?ft_N ?fa_Q ?ff_Q ?fl_Q ?fc_Q ?fk_Q ?ft_Q ?LB_ ?z_isinstance ?z_int ?z_bool ?z_str ?z_len ?z_sorted ?z_tuple ?z_sum ?z_list ?z_dict ?z_range ?z_abs ?z_divmod
    (case A0 => k_is)
    (case L0 => k_is)
    (case D0 => k_is)
    (case E0 => k_is)
    (case A1 => k_is)
    (case L1 => k_is)
    (case D1 => k_is)
    (case E1 => k_is)
    (case A2 => k_is)
    (case L2 => k_is)
    (case D2 => k_is)
    (case E2 => k_is)
    (case A3 => k_is)
    (case L3 => k_is)
    (case D3 => k_is)
    (case E3 => k_is)
    (case A4 => k_is)
    (case L4 => k_is)
    (case D4 => k_is)
    (case E4 => k_is)
    (case A5 => k_is)
    (case L5 => k_is)
    (case D5 => k_is)
    (case E5 => k_is)
    (case A6 => k_is)
    (case L6 => k_is)
    (case D6 => k_is)
    (case E6 => k_is)
    (case A7 => k_is)
    (case L7 => k_is)
    (case D7 => k_is)
    (case E7 => k_is)
    (case A8 => k_is)
    (case L8 => k_is)
    (case D8 => k_is)
    (case E8 => k_is)
    (case A9 => k_is)
    (case L9 => k_is)
    (case D9 => k_is)
    (case E9 => k_is)
    (case A10 => k_is)
    (case L10 => k_is)
    (case D10 => k_is)
    (case E10 => k_is)
    (case A11 => k_is)
    (case L11 => k_is)
    (case D11 => k_is)
    (case E11 => k_is)
    (case A12 => k_is)
    (case L12 => k_is)
    (case D12 => k_is)
    (case E12 => k_is)
    (case A13 => k_is)
    (case L13 => k_is)
    (case D13 => k_is)
    (case E13 => k_is)
    (case A14 => k_is)
    (case L14 => k_is)
    (case D14 => k_is)
    (case E14 => k_is)
    (case A15 => k_is)
    (case L15 => k_is)
    (case D15 => k_is)
    (case E15 => k_is)
    (case A16 => k_is)
    (case L16 => k_is)
    (case D16 => k_is)
    (case E16 => k_is)
    (case A17 => k_is)
    (case L17 => k_is)
    (case D17 => k_is)
    (case E17 => k_is)
    (case A18 => k_is)
    (case L18 => k_is)
    (case D18 => k_is)
    (case E18 => k_is)
    (case A19 => k_is)
    (case L19 => k_is)
    (case D19 => k_is)
    (case E19 => k_is)
    (case A20 => k_is)
    (case L20 => k_is)
    (case D20 => k_is)
    (case E20 => k_is)
    (case A21 => k_is)
    (case L21 => k_is)
    (case D21 => k_is)
    (case E21 => k_is)
    (case A22 => k_is)
    (case L22 => k_is)
    (case D22 => k_is)
    (case E22 => k_is)
    (case A23 => k_is)
    (case L23 => k_is)
    (case D23 => k_is)
    (case E23 => k_is)
    (case A24 => k_is)
    (case L24 => k_is)
    (case D24 => k_is)
    (case E24 => k_is)
    (case A25 => k_is)
    (case L25 => k_is)
    (case D25 => k_is)
    (case E25 => k_is)
    (case AP0 => k_is)
    (case LP => k_is)
    (case DP => k_is)
    (case EP => k_is)
    (case CP => k_is)
    (case VP => rfl)
    (case WP => kernel_rfl)
    (case NP => kernel_rfl)
    (case AL0 => k_is)
    (case LL => k_is)
    (case DL => k_is)
    (case EL => k_is)
    (case CL => k_is)
    (case VL => rfl)
    (case WL => kernel_rfl)
    (case NL => kernel_rfl)
    (case NP2 => kernel_rfl)
    (case ALN => k_is)
    (case ACh => k_is)
    (case ANN => k_is)
    (case LN_ => k_is)
    (case AF => k_is)
    (case AK => k_is)
    (case xL => k_is)
    (case hmE => rfl)
    (case aE => k_is)
    (case lE => k_is)
    (case cE => k_is)
    (case kE => k_is)
    (case bE => kernel_rfl)
    (case s_AC => k_is)
    (case s_a0 => k_is)
    (case s_n0 => k_is)
    (case s_l0 => k_is)
    (case s_c0 => k_is)
    (case s_k0 => k_is)
    (case s_aR => k_is)
    (case s_rcR => k_is)
    (case s_iR => k_is)
    (case s_l1 => k_is)
    (case s_c1 => k_is)
    (case s_k1 => k_is)
    (case s_pg => k_is)
    (case s_hd => k_is)
    (case s_po => k_is)
    (case s_sa => k_is)
    (case s_mk => k_is)
    (case s_kp => k_is)
    (case s_rd => k_is)
    (case s_ga => k_is)
    (case s_z0 => k_is)
    (case s_z1 => k_is)
    (case s_z2 => k_is)
    (case s_z3 => k_is)
    (case q_AC => k_is)
    (case q_a0 => k_is)
    (case q_n0 => k_is)
    (case q_l0 => k_is)
    (case q_c0 => k_is)
    (case q_k0 => k_is)
    (case q_a1 => k_is)
    (case q_n1 => k_is)
    (case q_l1 => k_is)
    (case q_c1 => k_is)
    (case q_k1 => k_is)
    (case q_a2 => k_is)
    (case q_n2 => k_is)
    (case q_l2 => k_is)
    (case q_c2 => k_is)
    (case q_k2 => k_is)
    (case q_aR => k_is)
    (case q_rcR => k_is)
    (case q_iR => k_is)
    (case q_l3 => k_is)
    (case q_c3 => k_is)
    (case q_k3 => k_is)
    (case q_pg => k_is)
    (case q_hd => k_is)
    (case q_po => k_is)
    (case q_sa => k_is)
    (case q_mk => k_is)
    (case q_kp => k_is)
    (case q_rd => k_is)
    (case q_ga => k_is)
    (case q_z0 => k_is)
    (case q_z1 => k_is)
    (case q_z2 => k_is)
    (case q_z3 => k_is)
    (case q_z4 => k_is)
    (case q_z5 => k_is)
    (case q_ha => k_is)
    (case q_hn => k_is)
    (case q_htk => k_is)
    (case q_hm => k_is)
    (case q_ne => k_is)
    (case q_ks => kernel_rfl)
    (case AW => k_is)
    (case wa0 => k_is)
    (case wlk0 => k_is)
    (case wcd0 => k_is)
    (case wk0 => k_is)
    (case wf0 => k_is)
    (case wa1 => k_is)
    (case wlk1 => k_is)
    (case wcd1 => k_is)
    (case wk1 => k_is)
    (case wf1 => k_is)
    (case wa2 => k_is)
    (case wlk2 => k_is)
    (case wcd2 => k_is)
    (case wk2 => k_is)
    (case wf2 => k_is)
    (case wa3 => k_is)
    (case wlk3 => k_is)
    (case wcd3 => k_is)
    (case wk3 => k_is)
    (case wf3 => k_is)
    (case wa4 => k_is)
    (case wlk4 => k_is)
    (case wcd4 => k_is)
    (case wk4 => k_is)
    (case wf4 => k_is)
    (case wa5 => k_is)
    (case wlk5 => k_is)
    (case wcd5 => k_is)
    (case wk5 => k_is)
    (case wf5 => k_is)
    (case wa6 => k_is)
    (case wlk6 => k_is)
    (case wcd6 => k_is)
    (case wk6 => k_is)
    (case wf6 => k_is)
    (case w_pg => k_is)
    (case w_hd => k_is)
    (case w_po => k_is)
    (case w_sa => k_is)
    (case w_nW => k_is)
    (case w_nA => k_is)
    (case w_mk => k_is)
    (case w_kp => k_is)
    (case fa_I => k_is)
    (case fl_I => k_is)
    (case fc_I => k_is)
    (case fk_I => k_is)
    (case ft_I => k_is)
    (case fa_N => k_is)
    (case ff_N => k_is)
    (case fl_N => k_is)
    (case fc_N => k_is)
    (case fk_N => k_is)
    (case ft_N => k_is)
    (case fa_Q => k_is)
    (case ff_Q => k_is)
    (case fl_Q => k_is)
    (case fc_Q => k_is)
    (case fk_Q => k_is)
    (case ft_Q => k_is)
    (case LB_ => k_is)
    (case z_isinstance => k_is)
    (case z_int => k_is)
    (case z_bool => k_is)
    (case z_str => k_is)
    (case z_len => k_is)
    (case z_sorted => k_is)
    (case z_tuple => k_is)
    (case z_sum => k_is)
    (case z_list => k_is)
    (case z_dict => k_is)
    (case z_range => k_is)
    (case z_abs => k_is)
    (case z_divmod => k_is)

