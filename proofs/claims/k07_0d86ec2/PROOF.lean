import PyProof.Rows.All
import Wide.All
import OpenK.AllK
import Wide.FinOn
import HandS.Base
import HandS.Call
import HandS.List
import HandS.Ends
import HandS.Words
import HandS.WordsList
import HandS.IsInst
import HandS.StrMore
import HandS.Text
import HandS.Flow
import HandS.Defaults
import PySem.Challenge.RW_filledrow_k07_tables_changed
import HandS.Exc
import HandS.ForMost
import HandS.ExcOwn
import HandS.ExcInit
import HandS.ExcIs
import HandS.ExcField
import HandS.ExcValue
import HandS.RaiseMore
import PyProof.ReprRoads
import PyProof.CallFns
import HandS.Style
import HandS.Star
import HandS.Codes
import PyProof.Rows.RegStrFacts
import PyProof.Rows.StrJoinMade
import HandS.Walk
import HandS.Iter
import HandS.Comp
import HandS.DictComp
import PyProof.DictFindH
import KE.KEqDict
import PyProof.Rows.StrMeet
import HandS.Conv
import HandS.More
import HandS.ClsMeth
import HandS.Sort
import HandS.SortKw
import KE.SortData
import PyProof.StrLawsRepr
import PyProof.NoPylong
import KE.KCallOwn
import KE.KOpsOwn
import KE.KOwnIter
import HandS.Records
import OpenK.KOps
import KE.KFmtOwn
import PyProof.ListNew
import PyProof.Conv_bool
import HandS.IterVal
import PyProof.WalksMore
import HandS.OwnIter
import PyProof.FitsReplace
import HandS.Wide
import HandS.WordsExc
import HandS.SetKeys
import KE.KDictSum
import KE.KDictPairs
import HandS.DeepEq
set_option Elab.async false
set_option linter.all false
set_option maxRecDepth 100000
set_option maxHeartbeats 4000000
/-! The small defs of the program that ask of which kind a value is. -/
namespace Fk
open PySem PySem.Spec PyProof.Rows L2
def top (i : Nat) : Stmt := PySem.Challenge.pw_filledrow_k07_tables_changed.main.body.getD i (.Pass ⟨0, 0, 0, 0⟩)
abbrev sInteger : Stmt := top 15
abbrev sAmount : Stmt := top 16
abbrev sName : Stmt := top 17
abbrev sNames : Stmt := top 20
abbrev sAmounts : Stmt := top 31
/-- the built-ins that are still themselves, and the constants -/
structure Blt (mg : Str → Option Value) : Prop where
  isi : mg "isinstance" = none
  int : mg "int" = none
  bool : mg "bool" = none
  str : mg "str" = none
  len : mg "len" = none
/-- is_integer(value, least) -/
def spInteger (K : PySem.W.Frag) : Sp := fun vs H Q _ => ∃ (v : V) (n : Int), vs = [v, .int n] ∧
  ((∃ i, v = .int i ∧ Q (.bl (decide (n ≤ i))) H) ∨ (∃ b, v = .bl b ∧ Q (.bl false) H) ∨ (∃ t, TyX K H v (.type t) ∧ kitB t "int" = some false ∧ Q (.bl false) H))
def spAmount (K : PySem.W.Frag) : Sp := fun vs H Q _ => ∃ (v : V), vs = [v] ∧
  ((∃ i, v = .int i ∧ Q (.bl (decide (0 ≤ i))) H) ∨ (∃ b, v = .bl b ∧ Q (.bl false) H) ∨ (∃ t, TyX K H v (.type t) ∧ kitB t "int" = some false ∧ Q (.bl false) H))
/-- what a text is to be a name -/
def nameB (x : Str) : Bool := decide ((x.length : Int) ≤ 8) && !(inV (.str x) [.str "none", .str "self"]) && Txt.isascii x && Txt.isalpha x && Txt.islower x
def spName (K : PySem.W.Frag) : Sp := fun vs H Q _ => ∃ (v : V), vs = [v] ∧
  ((∃ x, v = .str x ∧ x.length ≤ sizeLine ∧ Q (.bl (nameB x)) H) ∨ (∃ t, TyX K H v (.type t) ∧ kitB t "str" = some false ∧ Q (.bl false) H))
theorem scInteger : FnScope ["value", "least"] ["value", "least"] (defScope sInteger) := ⟨rfl, rfl, rfl, by decide +kernel, rfl, by decide +kernel, by decide +kernel⟩
theorem scAmount : FnScope ["value"] ["value"] (defScope sAmount) := ⟨rfl, rfl, rfl, by decide +kernel, rfl, by decide +kernel, by decide +kernel⟩
theorem scName : FnScope ["value"] ["value"] (defScope sName) := ⟨rfl, rfl, rfl, by decide +kernel, rfl, by decide +kernel, by decide +kernel⟩
section
variable {P : Program} {w : World} {K : PySem.W.Frag} {mg : Str → Option Value} {base : Heap} {f fI fN : Addr} {fd fdI fdN : FuncData}
theorem ok_integer (F : FunD K "is_integer" "is_integer" (defArgs sInteger) (defBody sInteger) (defScope sInteger) [.non] [] f fd) (T : Blt mg) : FnOk P w K mg base CX0 1 f fd ["value", "least"] (spInteger K) := by
  refine F.ok (CX := CX0) scInteger (fun vs H Q E h => ?_) (fun cdv A outer s H vs Q E hr h => ?_)
  · obtain ⟨v, n, rfl, _⟩ := h
    rfl
  · obtain ⟨v, n, rfl, h⟩ := h
    refine ⟨_, PSs.nox (pss_one (ps_ret (pe_and (pe_callB call_isi (by rfl) T.isi (by decide +kernel) (pa_cons (pv 0) (pa_cons (pe_bltn (v := .ty "int") (by rfl) T.int (by decide +kernel) rfl) pa_nil)))
      (pe_and (pe_not (pe_callB call_isi (by rfl) T.isi (by decide +kernel) (pa_cons (pv 0) (pa_cons (pe_bltn (v := .ty "bool") (by rfl) T.bool (by decide +kernel) rfl) pa_nil)))) (pe_one (pe_or (pe_cmpR op_isN (pv 1) pe_non (nomark _)) (pe_one (pe_cmpR op_ge (pv 0) (pv 1) (nomark _))))))))), ?_⟩
    rcases h with ⟨i, rfl, q⟩ | ⟨b, rfl, q⟩ | ⟨t, ty, e, q⟩
    · exact ⟨_, rfl, _, _, _, _, true, rfl, .ty _, .base (.int i), kit_ty (by decide +kernel), _, rfl, _, rfl, _, _, _, _, false, rfl, .ty _, .base (.int i), kit_ty (by decide +kernel), _, rfl, true, rfl, _, rfl, rfl, _, rfl, _, rfl, _, rfl, _, _, rfl, rfl, q⟩
    · exact ⟨_, rfl, _, _, _, _, true, rfl, .ty _, .base (.bl b), kit_ty (by decide +kernel), _, rfl, _, rfl, _, _, _, _, true, rfl, .ty _, .base (.bl b), kit_ty (by decide +kernel), _, rfl, false, rfl, q⟩
    · exact ⟨_, rfl, _, _, _, _, false, rfl, .ty _, ty, kit_ty e, _, rfl, q⟩
theorem ok_amount (F : Fun K "is_amount" "is_amount" sAmount f fd) (G : FnOk P w K mg base CX0 1 fI fdI ["value", "least"] (spInteger K)) (b : Binds K fdI ["value", "least"] []) (gI : mg "is_integer" = some (.ref fI)) (kI : PySem.W.keepIn K (.ref fI) = true) :
    FnOk P w K mg base CX0 2 f fd ["value"] (spAmount K) := by
  refine F.ok scAmount (fun vs H Q E h => ?_) (fun cdv A outer s H vs Q E hr h => ?_)
  · obtain ⟨v, rfl, _⟩ := h
    rfl
  · obtain ⟨v, rfl, h⟩ := h
    refine ⟨_, pss_one (ps_ret (pe_call G hr (by rfl) gI kI b .nil pass0 (pa_cons (pv 0) (pa_cons pe_int pa_nil)))), ?_⟩
    exact ⟨_, rfl, v, 0, rfl, h⟩
theorem ok_name (F : Fun K "is_name" "is_name" sName f fd) (T : Blt mg) {tL tN : Nat} {aN : Addr} (gL : mg "LONGEST_NAME" = some (.int 8 tL)) (gN : mg "NO_NAMES" = some (.ref aN)) (hN : ∀ H, SqT K H aN [.str "none", .str "self"]) :
    FnOk P w K mg base CX0 1 f fd ["value"] (spName K) := by
  refine F.ok scName (fun vs H Q E h => ?_) (fun cdv A outer s H vs Q E hr h => ?_)
  · obtain ⟨v, rfl, _⟩ := h
    rfl
  · obtain ⟨v, rfl, h⟩ := h
    refine ⟨_, pss_cons (ps_if (PW.pt (pw_or (pt_not (pt_val (pe_callB call_isi (by rfl) T.isi (by decide +kernel) (pa_cons (pv 0) (pa_cons (pe_bltn (v := .ty "str") (by rfl) T.str (by decide +kernel) rfl) pa_nil)))))
        (pw_or (pt_cmpR op_gt (pe_callB call_len_str (by rfl) T.len PySem.boot_len (pa_cons (pv 0) pa_nil)) (pe_glob (v := .int 8) (by rfl) gL ⟨_, rfl⟩) (nomark _)) (pw_or1 (pt_cmpR op_in_seq (pv 0) (pe_glob (v := .ref aN) (by rfl) gN rfl) (by rfl))))))
        (pss_one (ps_ret pe_bl)) pss_nil)
      (pss_one (ps_ret (pe_and (pe_bm0 PySem.F.plainAttrs_str PySem.F.slot_str_isascii PySem.F.type_str_isascii mt_isascii (pv 0)) (pe_and (pe_bm0 PySem.F.plainAttrs_str PySem.F.slot_str_isalpha PySem.F.type_str_isalpha mt_isalpha (pv 0)) (pe_one (pe_bm0 PySem.F.plainAttrs_str PySem.F.slot_str_islower PySem.F.type_str_islower mt_islower (pv 0))))))), ?_⟩
    rcases h with ⟨x, rfl, hx, q⟩ | ⟨t, ty, e, q⟩
    · refine ⟨_, rfl, _, _, _, _, true, rfl, .ty _, .base (.str x), kit_ty (by decide +kernel), _, rfl, ?_⟩
      refine ⟨_, rfl, x, rfl, hx, _, _, rfl, rfl, _, rfl, ?_⟩
      by_cases h8 : (8 : Int) < x.length
      · rw [decide_eq_true h8]
        have e : nameB x = false := by
          unfold nameB
          rw [decide_eq_false (by omega)]
          rfl
        rw [e] at q
        exact q
      · rw [decide_eq_false h8]
        refine ⟨_, rfl, aN, _, rfl, .inr (hN H), rfl, rfl, _, rfl, ?_⟩
        cases hn : inV (.str x) [.str "none", .str "self"] with
        | true =>
          have e : nameB x = false := by
            unfold nameB
            rw [hn]
            simp
          rw [e] at q
          exact q
        | false =>
          have e : nameB x = (Txt.isascii x && Txt.isalpha x && Txt.islower x) := by
            unfold nameB
            rw [hn, decide_eq_true (by omega)]
            simp
          rw [e] at q
          refine ⟨_, rfl, rfl, x, rfl, rfl, trivial, _, rfl, ?_⟩
          cases h1 : Txt.isascii x with
          | false => rw [h1] at q; exact q
          | true =>
            refine ⟨_, rfl, rfl, x, rfl, rfl, trivial, _, rfl, ?_⟩
            cases h2 : Txt.isalpha x with
            | false => rw [h1, h2] at q; exact q
            | true =>
              rw [h1, h2] at q
              exact ⟨_, rfl, rfl, x, rfl, rfl, trivial, q⟩
    · exact ⟨_, rfl, _, _, _, _, false, rfl, .ty _, ty, kit_ty e, _, rfl, q⟩
/-- what is never reached -/
theorem ps_dead {X : Cx} {st : Stmt} : PS X st (fun _ _ _ => False) := ⟨fun _ _ _ _ _ _ h => h.elim⟩
/-- a text that is a name -/
def NameV (v : V) : Prop := ∃ x : Str, v = .str x ∧ x.length ≤ sizeLine ∧ nameB x = true
/-- an amount -/
def AmtV (v : V) : Prop := ∃ i : Int, v = .int i ∧ 0 ≤ i
/-- check_names(values), all of them names; check_amounts(values), all of them amounts -/
def spAll (K : PySem.W.Frag) (R : V → Prop) : Sp := fun vs H Q _ => ∃ (a : Addr) (xs : List V), vs = [.ref a] ∧ SqL K H a xs ∧ (∀ x ∈ xs, R x) ∧ Q .non H
theorem scNames : FnScope ["values", "value"] ["values"] (defScope sNames) := ⟨rfl, rfl, rfl, by decide +kernel, rfl, by decide +kernel, by decide +kernel⟩
theorem scAmounts : FnScope ["values", "value"] ["values"] (defScope sAmounts) := ⟨rfl, rfl, rfl, by decide +kernel, rfl, by decide +kernel, by decide +kernel⟩
/-- a list or a tuple -/
def SqA (K : PySem.W.Frag) (H : Hp) (a : Addr) (xs : List V) : Prop := SqL K H a xs ∨ SqT K H a xs
def iSeq (K : PySem.W.Frag) (tl : TE) : TI := fun σ H R => iList K tl σ H R ∨ iTup K tl σ H R
theorem pi_seq {X : Cx} {tg l : Expr} {tl : TE} (h : PE X l tl) : PI X tg l (iSeq X.K tl) := ⟨fun pins s σ H R I q => q.elim ((pi_list h).run pins s σ H R I) ((pi_tup h).run pins s σ H R I)⟩
def spSeq (K : PySem.W.Frag) (R : V → Prop) : Sp := fun vs H Q _ => ∃ (a : Addr) (xs : List V), vs = [.ref a] ∧ SqA K H a xs ∧ (∀ x ∈ xs, R x) ∧ Q .non H
theorem ok_names (F : Fun K "check_names" "check_names" sNames f fd) (G : FnOk P w K mg base CX0 1 fN fdN ["value"] (spName K)) (b : Binds K fdN ["value"] []) (gN : mg "is_name" = some (.ref fN)) (kN : PySem.W.keepIn K (.ref fN) = true) :
    FnOk P w K mg base CX0 2 f fd ["values"] (spSeq K NameV) := by
  have nd := scNames.nd
  refine F.ok scNames (fun vs H Q E h => ?_) (fun cdv A outer s H vs Q E hr h => ?_)
  · obtain ⟨a, xs, rfl, _⟩ := h
    rfl
  · obtain ⟨a, xs, rfl, hS, hx, q⟩ := h
    refine ⟨_, pss_one (ps_for PassesOwn.never rfl (pi_seq (pv 0)) (pg_name (i := 1) nd rfl (Or.inl rfl))
      (pss_one (ps_if (pt_not (pt_val (pe_call G hr (by rfl) gN kN b .nil pass0 (pa_cons (pv 1) pa_nil)))) (pss_one ps_dead) pss_nil))), ?_⟩
    rcases hS with hS | hS
    · refine .inl ⟨_, rfl, a, rfl, ⟨_, hS⟩, for_list (xs := xs) (fun i σ H' => H' = H ∧ ∃ o, σ = [some (.ref a), o]) ⟨rfl, _, rfl⟩ (fun i σ H' _ h => by rw [h.1]; exact hS) (fun i x σ H' hi h => ?_) (fun σ H' h => ?_)⟩
      · obtain ⟨rfl, o, rfl⟩ := h
        obtain ⟨z, rfl, hz, hn⟩ := hx x (List.mem_of_getElem? hi)
        refine ⟨_, rfl, _, rfl, .inl ⟨z, rfl, hz, _, rfl, ?_⟩⟩
        rw [hn]
        exact ⟨rfl, _, rfl⟩
      · obtain ⟨rfl, o, rfl⟩ := h
        exact q
    · refine .inr ⟨_, rfl, a, rfl, ⟨_, hS⟩, for_tup (xs := xs) (fun i σ H' => H' = H ∧ ∃ o, σ = [some (.ref a), o]) ⟨rfl, _, rfl⟩ (fun i σ H' _ h => by rw [h.1]; exact hS) (fun i x σ H' hi h => ?_) (fun σ H' h => ?_)⟩
      · obtain ⟨rfl, o, rfl⟩ := h
        obtain ⟨z, rfl, hz, hn⟩ := hx x (List.mem_of_getElem? hi)
        refine ⟨_, rfl, _, rfl, .inl ⟨z, rfl, hz, _, rfl, ?_⟩⟩
        rw [hn]
        exact ⟨rfl, _, rfl⟩
      · obtain ⟨rfl, o, rfl⟩ := h
        exact q
theorem ok_amounts (F : Fun K "check_worths" "check_worths" sAmounts f fd) (G : FnOk P w K mg base CX0 2 fN fdN ["value"] (spAmount K)) (b : Binds K fdN ["value"] []) (gN : mg "is_amount" = some (.ref fN)) (kN : PySem.W.keepIn K (.ref fN) = true) :
    FnOk P w K mg base CX0 3 f fd ["values"] (spAll K AmtV) := by
  have nd := scAmounts.nd
  refine F.ok scAmounts (fun vs H Q E h => ?_) (fun cdv A outer s H vs Q E hr h => ?_)
  · obtain ⟨a, xs, rfl, _⟩ := h
    rfl
  · obtain ⟨a, xs, rfl, hS, hx, q⟩ := h
    refine ⟨_, pss_one (ps_for PassesOwn.never rfl (pi_list (pv 0)) (pg_name (i := 1) nd rfl (Or.inl rfl))
      (pss_one (ps_if (pt_not (pt_val (pe_call G hr (by rfl) gN kN b .nil pass0 (pa_cons (pv 1) pa_nil)))) (pss_one ps_dead) pss_nil))), ?_⟩
    refine ⟨_, rfl, a, rfl, ⟨_, hS⟩, for_list (xs := xs) (fun i σ H' => H' = H ∧ ∃ o, σ = [some (.ref a), o]) ⟨rfl, _, rfl⟩ (fun i σ H' _ h => by rw [h.1]; exact hS) (fun i x σ H' hi h => ?_) (fun σ H' h => ?_)⟩
    · obtain ⟨rfl, o, rfl⟩ := h
      obtain ⟨z, rfl, hz⟩ := hx x (List.mem_of_getElem? hi)
      refine ⟨_, rfl, _, rfl, .inl ⟨z, rfl, _, rfl, ?_⟩⟩
      rw [decide_eq_true hz]
      exact ⟨rfl, _, rfl⟩
    · obtain ⟨rfl, o, rfl⟩ := h
      exact q
/-! is_row, is_pair -/
abbrev sPair : Stmt := top 18
abbrev sRow : Stmt := top 19
theorem scPair : FnScope ["value"] ["value"] (defScope sPair) := ⟨rfl, rfl, rfl, by decide +kernel, rfl, by decide +kernel, by decide +kernel⟩
theorem scRow : FnScope ["value"] ["value"] (defScope sRow) := ⟨rfl, rfl, rfl, by decide +kernel, rfl, by decide +kernel, by decide +kernel⟩
/-- more built-ins that are still themselves -/
structure BltR (mg : Str → Option Value) : Prop where
  list : mg "list" = none
  tuple : mg "tuple" = none
def spRow (K : PySem.W.Frag) : Sp := fun vs H Q _ => ∃ (a : Addr) (xs : List V), vs = [.ref a] ∧ SqA K H a xs ∧ ∀ H', (∀ b o, H b = some o → H' b = some o) → Q (.bl true) H'
theorem SqL.ty {H : Hp} {a : Addr} {xs : List V} (h : H a = some (.lst xs)) : TyX K H (.ref a) (.type "list") := .base (.lst h)
end
end Fk

set_option Elab.async false
set_option linter.all false
set_option maxRecDepth 100000
set_option maxHeartbeats 4000000
/-! An own class of errors is called with keywords too: what BaseException.__new__ makes, then its own __init__. -/
namespace PySem
namespace XK
open PySem.W PySem.Calls PyProof.Rows PySem.HandSPX
section
variable {prog : Program} {w : World} {A : Around} {E : Value → Shared → Prop} {R : Result → Shared → Prop} {h : Heap} {g : Array GenState} {d : Drawn} {t : Nat} {os : OsState}
variable {nm q : Str} {C N : Addr} {bs bm up : List Value} {hdct : Bool} {sn : List Str} {sub : List Value} {ab : Bool} {col : Option Bool} {dd : Option Addr} {k0 k1 k2 k3 k5 : Option Value} {B newId initId : String} {us : List Value} {kw : List (Str × Value)} {fI : Addr}
/-- the class C, with bm above it, has the builtin ones that the base's chain `up` has -/
theorem above (same : ∀ n : String, bm.contains (.type n) = up.contains (.type n)) {n : String} {b : Bool} (e : up.contains (.type n) = b) : (Value.ref C :: bm).contains (.type n) = b := by
  rw [List.contains_cons, same, e]
  rfl
/-- new(C, *us, **kw): the error, its args a new tuple -/
theorem new_kw (F : ExcBaseFacts B newId initId up) (same : ∀ n : String, bm.contains (.type n) = up.contains (.type n)) (at_C : h.get? C = some (excClassObj nm q C N bs bm hdct sn sub ab col dd k0 k1 k2 k3 k5 newId)) (short : us.length ≤ sizeLine)
    (k : R (.ok (.ret (.ref (h.objs.size + 1)))) ⟨(h.push (W.kdv_tup us)).push (excO C h.objs.size), g, d, t, os⟩) : codeAny (model prog w) A (.builtin newId ⟨.ref C :: us, kw⟩) R ⟨h, g, d, t, os⟩ := by
  have yes := above (C := C) same F.hasB
  have noA := above (C := C) same F.noAttr
  have noN := above (C := C) same F.noName
  have room := F.ends
  refine codeAny_builtinAt F.entry ?_
  unfold Builtin.«BaseException.__new__»
  refine wpAt_bind ?_
  show wpAt _ _ _ (stack >>= _) _ _ _
  refine wpAt_bind (wpAt_stack fun _ _ => wpAt_of_wpAny ?_)
  wp_walk
  refine wpAt_of_wpAny ?_
  rw [F.owner]
  repeat (first
    | with_reducible refine wpAny_madeHere_exc F.canon at_C ?_
    | with_reducible refine wpAny_loadPart_at at_C ?_
    | (with_reducible refine wpAny_isSubtype_exc at_C ?_; (first | rw [yes] | rw [noA] | rw [noN]))
    | wp_step)
  show R _ _
  rw [Heap.size_push]
  exact k
/-- type.__call__(C, *us, **kw): the error at the second new address; then __init__ at fI has it -/
theorem type_call_kw {Q : Fin → Shared → Prop} (F : ExcBaseFacts B newId initId up) (same : ∀ n : String, bm.contains (.type n) = up.contains (.type n)) (at_C : h.get? C = some (excClassObj nm q C N bs bm hdct sn sub ab col dd k0 k1 k2 k3 k5 newId)) (short : us.length ≤ sizeLine)
    (init : W.Looks (model prog w) h (typeLookup (.ref C) "__init__") (some (.ref fI))) (bind : ∀ self, W.Looks (model prog w) h (bindSpecial (.ref fI) self) (.ref fI, [self]))
    (k : codeAny (model prog w) A (.call (.ref fI) ⟨.ref (h.objs.size + 1) :: us, kw⟩)
      (fun r s' => match r with | .ok (.ret v) => v = .none ∧ Q (.done (.ret (.ref (h.objs.size + 1)))) s' | .ok _ => False | .error e => E e s') ⟨(h.push (W.kdv_tup us)).push (excO C h.objs.size), g, d, t, os⟩) :
    wpAny (model prog w) A (Builtin.«type.__call__» ⟨.ref C :: us, kw⟩) Q E ⟨h, g, d, t, os⟩ := by
  have old : ∀ b o, h.get? b = some o → ((h.push (W.kdv_tup us)).push (excO C h.objs.size)).get? b = some o := fun b o e => Heap.get?_push_of_some _ (Heap.get?_push_of_some _ e)
  have made : ((h.push (W.kdv_tup us)).push (excO C h.objs.size)).get? (h.objs.size + 1) = some (excO C h.objs.size) := by heap_get
  have itself : (Value.ref C :: bm).contains (.ref C) = true := by simp
  have yes := above (C := C) same F.hasB
  have star := F.noStar
  repeat (first | with_reducible refine wpAny_loadPart_at at_C ?_ | with_reducible refine wpAny_madeBy_exc at_C ?_ | wp_step)
  refine codeAny_call_builtin_code (Code.quiet_builtin _ F.quiet) ?_
  -- new's own arguments pass: any, with any keywords
  simp only [checkBuiltinCall, F.newKind, F.newSplit, F.newRow]
  repeat (first
    | refine wpAny_loadPart_at at_C ?_
    | (refine wpAny_isSubtype_exc at_C ?_; rw [yes])
    | refine wpAny_staticBase_exc at_C ?_
    | refine wpAny_madeBy_exc at_C ?_
    | simp only [bne_self_eq_false, Bool.false_eq_true, if_false]
    | wp_step)
  refine new_kw F same at_C short ?_
  show wpAny _ _ _ _ _ _
  unfold isInstance
  have at_C' := old _ _ at_C
  repeat (first | with_reducible refine wpAny_loadPart_at made ?_ | (with_reducible refine wpAny_isSubtype_exc at_C' ?_; rw [itself]) | wp_step)
  show wpAny _ _ (typeLookup (.ref C) _) _ _ _
  refine (init.keeps old).at (wpAny_holding (wpAny_bind (((bind _).keeps old).at (wpAny_bind (wpAny_call (codeAny_mono k fun r s' z => ?_))))))
  rcases r with e | (v | _ | _ | _)
  all_goals first | exact z | exact z.elim | skip
  obtain ⟨rfl, z⟩ := z
  first
    | exact wpAny_pure (wpAny_pure z)
    | (wp_walk; exact z)
/-- C(*us, **kw) -/
theorem call_kw (F : ExcBaseFacts B newId initId up) (same : ∀ n : String, bm.contains (.type n) = up.contains (.type n)) (at_C : h.get? C = some (excClassObj nm q C N bs bm hdct sn sub ab col dd k0 k1 k2 k3 k5 newId)) (short : us.length ≤ sizeLine)
    (init : W.Looks (model prog w) h (typeLookup (.ref C) "__init__") (some (.ref fI))) (bind : ∀ self, W.Looks (model prog w) h (bindSpecial (.ref fI) self) (.ref fI, [self]))
    (k : codeAny (model prog w) (A.under (.builtin "type.__call__" ⟨.ref C :: us, kw⟩)) (.call (.ref fI) ⟨.ref (h.objs.size + 1) :: us, kw⟩) (W.InitBack (h.objs.size + 1) R) ⟨(h.push (W.kdv_tup us)).push (excO C h.objs.size), g, d, t, os⟩) :
    codeAny (model prog w) A (.call (.ref C) ⟨us, kw⟩) R ⟨h, g, d, t, os⟩ := by
  have look := tc_lookup
  have self := tc_bind (.ref C)
  have isT : (⟨h, g, d, t, os⟩ : Shared).TypeIs (.ref C) "type" := ⟨_, at_C, rfl⟩
  refine codeAny_of_tree ?_
  show wpAny _ _ (callAny (.ref C) _) _ _ _
  repeat (any_goals (first | assumption | with_reducible refine wpAny_loadPart_at at_C ?_ | wp_step))
  refine ⟨rfl, codeAny_call_builtin_at (Code.quiet_builtin _ (by decide +kernel)) entry_typeCall (wpAny_check_type_call_sub at_C (type_call_kw F same at_C short init bind (codeAny_mono k fun r s' z => ?_)))⟩
  rcases r with e | (v | _ | _ | _) <;> exact z
end
end XK
end PySem

set_option Elab.async false
set_option linter.all false
set_option maxRecDepth 100000
set_option maxHeartbeats 4000000
namespace PySem
namespace XK
open PySem.W PySem.Calls PyProof.Rows PySem.HandSPX
section
variable {prog : Program} {w : World} {A : Around} {E : Value → Shared → Prop} {s : Shared} {K : Frag} {x D : Addr} {ox : Obj}
/-- a data descriptor of the class goes ahead of the object's own dict -/
theorem found_data {C : Addr} {od : Option Obj} {n : Str} {a g : Value} {cd : ClassData} (c : clsIn K C = some cd) (ha : findIn K (.ref C) n = some (some a)) (hg : specialIn K a "__get__" = some (some g)) (ht : takesIn K a = some true) : findObj K C od n = some (.bind g a) := by
  simp [findObj, c, ha, hg, ht]
/-- what the class D of an error must say, so that isinstance asks its objects rightly -/
structure Asked (K : Frag) (D : Addr) : Prop where
  ga : findIn K (.ref D) "__getattribute__" = some (some (.builtin "BaseException.__getattribute__"))
  gg : findIn K (.ref D) "__getattr__" = some none
  ex : subIn K (.ref D) (.type "BaseException") = some true
  cd : ∃ cd : ClassData, clsIn K D = some cd
  cl : findIn K (.ref D) "__class__" = some (some (.builtin "object.__class__"))
  ge : specialIn K (.builtin "object.__class__") "__get__" = some (some (.builtin "getset_descriptor.__get__"))
  tk : takesIn K (.builtin "object.__class__") = some true
  mo : mroIn K D (.type "object") = some true
theorem Asked.obj (T : Asked K D) : ∃ c d cd sl, K.lookup D = some ⟨c, d, .cls cd, sl⟩ := by
  obtain ⟨cd, e⟩ := T.cd
  unfold clsIn at e
  split at e
  · exact ⟨_, _, _, _, by assumption⟩
  · cases e
/-- e.__class__, e an error with or without a dict of its own -/
theorem Asked.get {od : Option Obj} {Q : Option Value → Shared → Prop} (T : Asked K D) (X : K.In s.heap) (I : InstAt s.heap x ox D od) (k : Q (some (.ref D)) { s with toks := s.toks + 1 }) : wpAny (model prog w) A (getAttr? (.ref x) "__class__") Q E s := by
  obtain ⟨cd, hcd⟩ := T.cd
  have found := looks_find (M := model prog w) X I (found_data (od := od) hcd T.cl T.ge T.tk)
  obtain ⟨hp, g, d, t, os⟩ := s
  have ty := I.type (M := model prog w)
  have isE : Looks (model prog w) hp (isInstance (.ref x) (.type "BaseException")) true := ty.andThen (looks_subIn X T.ex)
  have no : (onTheHeap (Value.ref D) && Value.builtin "BaseException.__getattribute__" == Value.builtin "object.__getattribute__") = false := by
    rw [show (Value.builtin "BaseException.__getattribute__" == Value.builtin "object.__getattribute__") = false by decide +kernel]
    rfl
  unfold getAttr? getAttrBy? getAttrBy
  refine wpAny_bind (wpAny_mkText (wpAny_bind (wpAny_attempt (wpAny_holding (wpAny_bind (ty.at (wpAny_bind ((looks_findIn X T.ga).at ?_))))))))
  show wpAny _ _ (if (onTheHeap (Value.ref D) && Value.builtin "BaseException.__getattribute__" == Value.builtin "object.__getattribute__") = true then _ else _) _ _ _
  rw [if_neg (by rw [no]; decide)]
  unfold getAttrByItsOwn hookBefore
  refine wpAny_bind ?_
  rw [if_pos (show onTheHeap (Value.ref D) = true from rfl)]
  refine (looks_findIn X T.gg).at (wpAny_bind (wpAny_attempt (wpAny_holding ?_)))
  unfold callGetattribute
  rw [if_neg (show ¬ (false && onTheHeap (Value.builtin "BaseException.__getattribute__")) = true by decide)]
  unfold boundAndCalled
  rw [PySem.F.excAttr_ValueError.ga.bind (.ref x)]
  refine wpAny_bind (wpAny_pure (wpAny_call (codeAny_call_builtin PySem.F.excAttr_ValueError.ga.plain PySem.F.entry_bexc_ga ?_)))
  refine @check_slot (model prog w) _ _ ⟨hp, g, d, t + 1, os⟩ "BaseException.__getattribute__" "BaseException" "__getattribute__" (.ref x) [.str "__class__" t] [] _ (by decide +kernel) (by decide +kernel) isE (PySem.F.args_bexc_ga (.ref x) (.str "__class__" t)) ?_
  unfold Builtin.«object.__getattribute__»
  refine wpAny_bind (wpAny_of_eq (a := ((Value.ref x : Value), [Value.str "__class__" t])) (by first | rfl | (simp only [slotArgs]; rfl)) (wpAny_bind (wpAny_pure (wpAny_bind (ty.at (wpAny_bind (found.at ?_)))))))
  show wpAny _ _ (holding [Value.builtin "object.__class__"] (call (.builtin "getset_descriptor.__get__") [.builtin "object.__class__", .ref x, .ref D]) >>= ret) _ _ _
  refine wpAny_bind (wpAny_holding (wpAny_call (class_get (s := ⟨hp, g, d, t + 1, os⟩) (ox := ox) (od := od) X I T.mo (wpAny_pure ?_))))
  show wpAny _ _ (handedOut (.ref D)) _ _ _
  rw [handedOut_of (v := .ref D) rfl]
  first
    | exact wpAny_pure (wpAny_pure k)
    | exact wpAny_pure k
    | exact wpAny_pure (wpAny_bind (wpAny_pure (wpAny_pure k)))
theorem Asked.kit {od : Option Obj} (T : Asked K D) : KitX K (.ref x) (.ref D) (fun h => InstAt h x ox D od) := by
  obtain ⟨c, d, cd, sl, ho⟩ := T.obj
  exact {
    ty := fun _ _ _ I => I.type
    it := fun _ _ X _ _ _ _ _ k q => by
      unfold isType loadHead
      exact wpAny_bind (wpAny_loadPart (k _ _ (X _ _ ho)) (wpAny_pure q))
    ne := fun h tp _ _ _ _ X there => Bool.eq_false_iff.mpr fun q => by
      obtain rfl : D = tp := Value.ref.inj (beq_iff_eq.mp q)
      cases (X _ _ ho).symm.trans there
    ca := fun X I k => T.get X I k }
end
end XK
end PySem

namespace L2
open PySem PySem.Spec PyProof.Rows
/-- at a: an exception of the class at C that is not raised, with its fields -/
def ErrAt (H : Hp) (a C : Addr) (fs : List (Str × V)) : Prop := (fs = [] ∧ H a = some (exo a C none)) ∨ ∃ d, H a = some (exo a C (some d)) ∧ H d = some (exd d fs)
theorem ErrAt.ex {H H' : Hp} {a C : Addr} {fs : List (Str × V)} (e : ∀ b o, H b = some o → H' b = some o) (h : ErrAt H a C fs) : ErrAt H' a C fs := by
  rcases h with ⟨e1, e2⟩ | ⟨d, e1, e2⟩
  · exact .inl ⟨e1, e _ _ e2⟩
  · exact .inr ⟨d, e _ _ e1, e _ _ e2⟩
section
variable {X : Cx} {pins : List (Addr × Obj)} {σ : St} {H : Hp} {s : Shared}
theorem ErrAt.inst {a C : Addr} {fs : List (Str × V)} (I : Inv X pins σ H s) (h : ErrAt H a C fs) : ∃ ox od, PySem.W.InstAt s.heap a ox C od := by
  rcases h with ⟨_, e⟩ | ⟨d, e, ed⟩
  · obtain ⟨t1, ho⟩ := exo_at I.hok e
    exact ⟨_, none, ho, rfl, rfl, trivial⟩
  · obtain ⟨t1, ho⟩ := exo_at I.hok e
    obtain ⟨mA, ⟨od, _, _, hd, _⟩, _⟩ := exd_at I.hok ed
    exact ⟨_, some od, ho, rfl, rfl, hd⟩
/-- isinstance(e, c), e an exception of an own class -/
def rIsX (K : PySem.W.Frag) : List V → Hp → VK → Prop := fun xs H Q => ∃ (a D : Addr) (fs : List (Str × V)) (c : V) (cv : Value) (b : Bool), xs = [.ref a, c] ∧ ErrAt H a D fs ∧ ExcC K D ∧ ClsV c cv ∧ PySem.W.kitOne K (.ref D) cv = some b ∧ Q (.bl b) H
theorem call_isX : CallR X (.builtin "isinstance") (rIsX X.K) := by
  intro pins s σ H xs us Q I r h
  obtain ⟨a, D, fs, c, cv, b, rfl, ea, C, k, e, q⟩ := h
  obtain ⟨u1, u2, rfl, r1, r2⟩ := vals2 r
  have e2 := k.eq r2
  subst e2
  cases r1
  obtain ⟨ox, od, J⟩ := ea.inst I
  exact PySem.W.kia_one (PySem.XK.Asked.kit (od := od) (ox := ox) ⟨C.hg, C.hk, C.hs, (let ⟨cd, hc, _⟩ := PySem.W.any_some C.hd; ⟨cd, hc⟩), C.ha, C.hn, C.ht, C.hm⟩) I.kIn J e (fun z => nomatch z) fun tk => ⟨.bl b, H, I.kept (t' := tk) fun _ _ z => z, rfl, q⟩
/-- e.f, e an exception of an own class -/
def tXv (K : PySem.W.Frag) (f : Str) (te : TE) : TE := fun σ H Q => te σ H fun x H1 => ∃ (a C : Addr) (fs : List (Str × V)) (v : V), x = .ref a ∧ XfC K C ∧ PySem.W.findIn K (.ref C) f = some none ∧ ErrAt H1 a C fs ∧ fs.lookup f = some v ∧ Q v H1
theorem pe_xv {e : Expr} {te : TE} {pos : Pos} {n : Str} (he : PE X e te) (hb : attributeBase e n X.env (eval e X.env) = eval e X.env := by rfl) :
    PE X (.Attribute e n pos) (tXv X.K n te) := by
  refine ⟨fun pins s σ H Q I h => ?_⟩
  refine attr_of hb (thn (he.run pins s σ H _ I h) fun u s1 hh => ?_)
  obtain ⟨x, H1, I1, rx, a, C, fs, v, ex, T, hno, ea, l, q⟩ := hh
  subst ex
  obtain rfl : u = Value.ref a := rx
  rcases ea with ⟨e1, _⟩ | ⟨dd, e1, ed⟩
  · subst e1
    cases l
  · obtain ⟨t1, ho⟩ := exo_at I1.hok e1
    obtain ⟨mA, hns, hr⟩ := exd_at I1.hok ed
    obtain ⟨od, hd, hl⟩ := lookIn_ns hns
    obtain ⟨u, hu, ru⟩ := RelO.some_of (v := v) (o := mA n) (by rw [← l]; exact hr n)
    have J : PySem.W.InstAt s1.heap a _ C (some od) := ⟨ho, rfl, rfl, hd⟩
    exact HandSPX.exc_get I1.kIn J T.ga T.gg T.exC (PySem.W.findObj_own T.hdC hno rfl (by rw [hl, hu])) (handed_of ru) ⟨v, H1, I1.tok _, ru, q⟩
/-- C(e, .., k = v, ..) as a value, C's own __init__ keeping sp -/
def tMkV (C : Addr) (n m : Nat) (sp : Sp) (gV : List V → List V → List V) (E : XK) (ta tk : TA) : TE := fun σ H Q => ta σ H fun vs H1 => tk σ H1 fun zs H2 => vs.length = n ∧ zs.length = m ∧
  ∀ a, H2 a = none → sp (gV (.ref a :: vs) zs) (upd H2 a (exo a C none)) (fun v H3 => v = .non ∧ Q (.ref a) H3) E
variable {CX : CXT} {k n : Nat} {f C fI : Addr} {fd : FuncData} {ps ks : List Str} {sp : Sp} {E : XK} {x : Str} {p pos : Pos} {e : Expr} {es : List Expr} {kws : List Keyword} {t tk : TA} {g : List Value → List Value → List Value} {gV : List V → List V → List V}
theorem run_mkv {Q : VK} {us ws : List Value} {vs zs : List V} (T : OexC X.K C) (iC : PySem.W.findIn X.K (.ref C) "__init__" = some (some (.ref fI))) (tI : PySem.W.typeIn X.K (.ref fI) = some (.type "function"))
    (F1 : FnOk X.prog X.w X.K X.mg X.base CX k fI fd ps sp) (hr : Room (k + 1) X.A) (hb : KBn X.K fd ps (n + 1) ks g gV) (hx : Passes CX X E) (I : Inv X pins σ H s) (r : Vals vs us) (rz : Vals zs ws) (l1 : vs.length = n) (l2 : zs.length = ks.length) (hn : n ≤ 1000)
    (h : ∀ a, H a = none → sp (gV (.ref a :: vs) zs) (upd H a (exo a C none)) (fun v H3 => v = .non ∧ Q (.ref a) H3) E) :
    wpAny (model X.prog X.w) X.A (call (.ref C) us (ks.zip ws)) (EP X pins σ Q) X.xe s := by
  obtain ⟨nm, q, N, bs, bm, sn, sub, ab, col, dd, k0, k1, k2, k3, k5, hC, hbm⟩ := T.cls
  obtain ⟨hp, gn, dr, tk, os⟩ := s
  have hsz : hp.objs.size ≤ hp.objs.size + 1 := Nat.le_succ _
  have hnn : H (hp.objs.size + 1) = none := I.hok.fresh hsz
  have hq := h (hp.objs.size + 1) hnn
  have kk : ∀ b o, hp.get? b = some o → ((hp.push (PySem.W.kdv_tup us)).push (PySem.HandSPX.excO C hp.objs.size)).get? b = some o := fun b o e => Heap.get?_push_of_some _ (Heap.get?_push_of_some _ e)
  have hget : ((hp.push (PySem.W.kdv_tup us)).push (PySem.HandSPX.excO C hp.objs.size)).get? (hp.objs.size + 1) = some (PySem.HandSPX.excO C hp.objs.size) := by heap_get
  have I2 : Inv X pins σ (upd H (hp.objs.size + 1) (exo (hp.objs.size + 1) C none)) ⟨(hp.push (PySem.W.kdv_tup us)).push (PySem.HandSPX.excO C hp.objs.size), gn, dr, tk, os⟩ :=
    I.laid (t' := tk) (a := hp.objs.size + 1) (o := exo (hp.objs.size + 1) C none) (h' := (hp.push (PySem.W.kdv_tup us)).push (PySem.HandSPX.excO C hp.objs.size)) kk hsz (exo_ok hget)
  have r1 : Vals (V.ref (hp.objs.size + 1) :: vs) (Value.ref (hp.objs.size + 1) :: us) := .cons rfl r
  have r2 := hb.rel r1 rz
  have e1 : (Value.ref (hp.objs.size + 1) :: us).length = n + 1 := r1.length.symm.trans (congrArg Nat.succ l1)
  have e2 : ws.length = ks.length := rz.length.symm.trans l2
  have hus : us.length ≤ sizeLine := by
    rw [← Paired.length r, sizeLine_eq, l1]
    omega
  refine wpAny_call (PySem.XK.call_kw F.excBase_ValueError (fun Y => PySem.HandSPX.refsVE_contains Y bm hbm) (I.kIn _ _ hC) hus (PySem.W.looks_findIn I.kIn iC) (fun self => PySem.W.bind_fn I.kIn self tI)
    (codeAny_mono (F1.run _ X.stack _ _ ⟨Value.ref (hp.objs.size + 1) :: us, ks.zip ws⟩ (g (Value.ref (hp.objs.size + 1) :: us) ws) _ _ E (hr.make C us (ks.zip ws)) (I2.env0.make C us (ks.zip ws)) (hb.to _ (Value.ref (hp.objs.size + 1) :: us) ws I2.kIn e1 e2) r2 hq) fun r s' hq' => ?_))
  cases r with
  | error er => exact hx pins σ _ _ er s' I2 hq'
  | ok fl =>
    cases fl with
    | ret u =>
      obtain ⟨v, H', I3, rv, ev, q3⟩ := I2.after hq'
      subst ev
      exact ⟨rv, ⟨V.ref (hp.objs.size + 1), H', I3, rfl, q3⟩⟩
    | next => exact False.elim hq'
    | brk => exact False.elim hq'
    | cont => exact False.elim hq'
/-- what such a class has -/
structure MkvC (K : PySem.W.Frag) (C fI : Addr) : Prop where
  o : OexC K C
  iC : PySem.W.findIn K (.ref C) "__init__" = some (some (.ref fI))
  tI : PySem.W.typeIn K (.ref fI) = some (.type "function")
/-- C(e, ..) -/
theorem pe_mkv (M : MkvC X.K C fI) (F : FnOk X.prog X.w X.K X.mg X.base CX k fI fd ps sp) (hr : Room (k + 1) X.A) (hg : Gl X x) (hm : X.mg x = some (.ref C)) (hb : KBn X.K fd ps (n + 1) [] g gV) (hx : Passes CX X E) (hn : n ≤ 1000)
    (ha : PA X (e :: es) t) (hdb : (x == ("__debug__" : Str)) = false := by decide) (he : starEach (e :: es) X.env = (false, eval e X.env) :: starEach es X.env := by rfl) (hpl : (backTo pos (starEach es X.env)).any (·.1) = false := by rfl) :
    PE X (.Call (.Name x p) (e :: es) [] pos) (tMkV C n 0 sp gV E t tNil) := by
  refine ⟨fun pins s σ H Q I h => ?_⟩
  refine wpAny_Call_Name_kw (ld_glob I hg hm ?_ hdb)
  refine PySem.W.callWith_K (h₀ := X.base) I.ok.mod.kin M.o.kC (thn (ha.run pos pins s σ H _ I h) fun us s1 ⟨vs, H1, I1, r, l1, l2, q⟩ => ⟨I1.kIn, ?_⟩) he hpl
  exact run_mkv (ks := []) (ws := []) (zs := []) M.o M.iC M.tI F hr hb hx I1 r .nil l1 rfl hn q
/-- C(k = v, ..) -/
theorem pe_mkv0 (M : MkvC X.K C fI) (F : FnOk X.prog X.w X.K X.mg X.base CX k fI fd ps sp) (hr : Room (k + 1) X.A) (hg : Gl X x) (hm : X.mg x = some (.ref C)) (hb : KBn X.K fd ps 1 ks g gV) (hx : Passes CX X E) (hkw : PK X kws tk)
    (hall : (backToKw pos (keywordEach kws X.env)).all (·.1.isSome) = true := by rfl) (hks : (backToKw pos (keywordEach kws X.env)).filterMap (·.1) = ks := by rfl) (hdb : (x == ("__debug__" : Str)) = false := by decide)
    (hpl : ((backTo pos (starEach [] X.env)).any (·.1) || (backToKw pos (keywordEach kws X.env)).any (·.1.isNone)) = false := by rfl) :
    PE X (.Call (.Name x p) [] kws pos) (tMkV C 0 ks.length sp gV E tNil tk) := by
  refine ⟨fun pins s σ H Q I h => ?_⟩
  refine wpAny_Call_Name_kw (ld_glob I hg hm ?_ hdb)
  refine PySem.W.callWith_KW0 (h₀ := X.base) I.ok.mod.kin M.o.kC hall ?_ hpl
  refine thn (hkw.run pos pins s σ H _ I h) fun ws s2 ⟨zs, H2, I2, rz, l1, l2, q2⟩ => ⟨I2.kIn, ?_⟩
  rw [hks]
  exact run_mkv (us := []) (vs := []) M.o M.iC M.tI F hr hb hx I2 .nil rz rfl l2 (by decide) q2
/-- C(e, .., k = v, ..) -/
theorem pe_mkvK (M : MkvC X.K C fI) (F : FnOk X.prog X.w X.K X.mg X.base CX k fI fd ps sp) (hr : Room (k + 1) X.A) (hg : Gl X x) (hm : X.mg x = some (.ref C)) (hb : KBn X.K fd ps (n + 1) ks g gV) (hx : Passes CX X E) (hn : n ≤ 1000) (ha : PA X (e :: es) t) (hkw : PK X kws tk)
    (hall : (backToKw pos (keywordEach kws X.env)).all (·.1.isSome) = true := by rfl) (hks : (backToKw pos (keywordEach kws X.env)).filterMap (·.1) = ks := by rfl) (hdb : (x == ("__debug__" : Str)) = false := by decide)
    (he : starEach (e :: es) X.env = (false, eval e X.env) :: starEach es X.env := by rfl) (hpl : ((backTo pos (starEach (e :: es) X.env)).any (·.1) || (backToKw pos (keywordEach kws X.env)).any (·.1.isNone)) = false := by rfl) :
    PE X (.Call (.Name x p) (e :: es) kws pos) (tMkV C n ks.length sp gV E t tk) := by
  refine ⟨fun pins s σ H Q I h => ?_⟩
  refine wpAny_Call_Name_kw (ld_glob I hg hm ?_ hdb)
  refine PySem.W.callWith_KW (h₀ := X.base) I.ok.mod.kin M.o.kC hall (thn (ha.run pos pins s σ H _ I h) fun us s1 ⟨vs, H1, I1, r, q⟩ => ?_) hpl he
  refine thn (hkw.run pos pins s1 σ H1 _ I1 q) fun ws s2 ⟨zs, H2, I2, rz, l1, l2, q2⟩ => ⟨I2.kIn, ?_⟩
  rw [hks]
  exact run_mkv M.o M.iC M.tI F hr hb hx I2 r rz l1 l2 hn q2
/-- C(), C(e), C an own class without own __init__ -/
theorem run_exc {Q : VK} {us : List Value} {bmB : List Value} {B newId initId : String} (F : ExcBaseFacts B newId initId bmB) (q : PySem.W.excIn X.K C bmB newId = true) (I : Inv X pins σ H s) (hl : us.length ≤ 1000)
    (h : ∀ a, H a = none → Q (.ref a) (upd H a (exo a C none))) : wpAny (model X.prog X.w) X.A (call (.ref C) us) (EP X pins σ Q) X.xe s := by
  obtain ⟨hp, gn, dr, tk, os⟩ := s
  obtain ⟨bm, N, nm, qn, bs, hdct, sn, sub, ab, col, dd, k0, k1, k2, k3, k5, mN, hC, hN, hni, T⟩ := exc_obj I.kIn q
  refine wpAny_call_exc_subT F T hC hN hni (fun h' a hm => ?_) (by rw [sizeLine_eq]; omega)
  have hn : H a = none := I.hok.gone hm.new
  obtain ⟨t, ht, _, _⟩ := hm.there
  exact ⟨.ref a, upd H a (exo a C none), I.laidN hm.keeps hm.new hn (exo_ok ht), rfl, h a hn⟩
end
end L2

set_option Elab.async false
set_option linter.all false
set_option maxRecDepth 100000
set_option maxHeartbeats 4000000
/-! Defs that are called while no repr is under way. -/
namespace XG
open PySem PySem.Spec PyProof.Rows L2
section
variable {CX : CXT} {P : Program} {w : World} {K : PySem.W.Frag} {mg : Str → Option Value} {base : Heap} {k : Nat} {f : Addr} {ps : List Str} {sp : Sp}
/-- the def at f keeps sp wherever no object is being shown -/
def FnG (P : Program) (w : World) (K : PySem.W.Frag) (mg : Str → Option Value) (base : Heap) (CX : CXT) (k : Nat) (f : Addr) (fd : FuncData) (ps : List Str) (sp : Sp) : Prop :=
  ∀ (A : Around) (outer : List Env) (s : Shared) (H : Hp) (args : Args) (us : List Value) (vs : List V) (Q : VK) (E : XK), A.guards = some [] → Room k A → Env0 P w K mg base A outer s H →
    BindsTo s fd args (ps.zip us) → Vals vs us → sp vs H Q E → codeAny (model P w) A (.call (.ref f) args) (CR CX outer P w H s Q E) s
theorem fnG_of {qual x : Str} {params : Arguments} {body : List Stmt} {scope : Scope} {dV kV doc pm cdv ct oc : Value} {an od : Option Addr} {osl : Array (Option Value)} {N : List Str}
    (lk : K.lookup f = some ⟨oc, od, .func (PySem.W.fnOf x qual params body scope dV kV doc pm an cdv ct), osl⟩) (hcd : PySem.W.codeIn K cdv qual = true) (S : FnScope N ps scope) (len : ∀ vs H Q E, sp vs H Q E → vs.length = ps.length)
    (walk : ∀ (A : Around) (outer : List Env) (s : Shared) (H : Hp) (vs : List V) (Q : VK) (E : XK), A.guards = some [] → Room k (A.deeper (envOfC qual scope s.heap.objs.size f cdv)) → sp vs H Q E →
      ∃ t, PSs (cxOf CX P w K mg base N qual scope f cdv A outer s H E) body t ∧ t { nx := fun _ H' => Q .non H', rt := Q } (start N vs) H) :
    FnG P w K mg base CX (k + 1) f (PySem.W.fnOf x qual params body scope dV kV doc pm an cdv ct) ps sp := by
  intro A outer s H args us vs Q E gd room e0 bd r h
  have n1 := len _ _ _ _ h
  have inH : ∀ b o, base.get? b = some o → s.heap.get? b = some o := fun b o e => (e0.bs b o e).1
  have kin : K.In s.heap := e0.mod.kin.keeps inH
  have par : ∀ y ∈ ps.zip us, scope.names.lookup y.1 = some .local ∨ (scope.names.lookup y.1 = some .cell ∧ ((cellsFrom (s.heap.objs.size + 1) scope.names []).lookup y.1).isSome = true) := by
    rintro ⟨y, z⟩ hy
    exact (S.par y (List.of_mem_zip hy).1).imp id fun q => ⟨q, PySem.W.cellsFrom_some _ _ _ (.inl q)⟩
  refine codeAny_call_function room.depth (kin _ _ lk) rfl S.co S.gen rfl (PySem.W.codeRec_of kin hcd) (bd _ _ _ _ (wpAny_newFunctionEnv_cells S.kind par fun env he s1 z => ?_))
  subst he
  refine ⟨(e0.mod.nolimit.keeps inH).keeps z.toInCall.keep, codeAny_func ?_⟩
  obtain ⟨t, body_ok, ends⟩ := walk A outer s H vs Q E gd (room.deeper _) h
  have J := inv_start (CX := CX) (E := E) S room.hd e0 n1 r z
  refine wpAny_mono (body_ok.run [] s1 _ H _ J ends) (fun fl s' q => ?_) fun e s' q => q
  rcases fl with u | _ | _ | _
  all_goals first
    | (obtain ⟨v, σ', H', J', rv, q⟩ := q; exact ⟨v, H', J'.os, J'.bare, J'.base, J'.hok, rv, q⟩)
    | (obtain ⟨σ', H', J', q⟩ := q; exact ⟨V.non, H', J'.os, J'.bare, J'.base, J'.hok, rfl, q⟩)
    | (obtain ⟨_, _, _, q⟩ := q; exact q.elim)
theorem Fun.okG {x qual : Str} {st : Stmt} {fd : FuncData} {N : List Str} (F : Fun K x qual st f fd) (S : FnScope N ps (defScope st)) (len : ∀ vs H Q E, sp vs H Q E → vs.length = ps.length)
    (walk : ∀ (cdv : Value) (A : Around) (outer : List Env) (s : Shared) (H : Hp) (vs : List V) (Q : VK) (E : XK), A.guards = some [] → Room k (A.deeper (envOfC qual (defScope st) s.heap.objs.size f cdv)) → sp vs H Q E →
      ∃ t, PSs (cxOf CX0 P w K mg base N qual (defScope st) f cdv A outer s H E).nox (defBody st) t ∧ t { nx := fun _ H' => Q .non H', rt := Q } (start N vs) H) : FnG P w K mg base CX0 (k + 1) f fd ps sp := by
  obtain ⟨oc, od, kV, doc, pm, an, cdv, ct, osl, rfl, lk, hcd⟩ := F.ex
  refine fnG_of lk hcd S len fun A outer s H vs Q E gd room h => ?_
  obtain ⟨t, a, b⟩ := walk cdv A outer s H vs Q E gd room h
  exact ⟨t, a.nox, b⟩
/-- the claim's call, from a heap in which nothing but the script is tracked -/
theorem core {mb : Str → Option Value} {fd : FuncData} {a : Addr} {x : Str} {s₁ : Shared} {vs : List Value} (kin : K.In s₁.heap) (hns : s₁.heap.Ns mainGlobals mg) (hb : s₁.heap.Ns builtinsNs mb) (hbb : ∀ x : Str, x ≠ "__name__" → mb x = bootBuiltins x)
    (lim : s₁.heap.NoLimit) (gens : s₁.gens = #[]) (ha : s₁.heap.get? a = some { cls := .type "list", data := .seq vs.toArray }) (room : Room k callerA)
    (F : ∀ base : Heap, K.In base → base.Ns mainGlobals mg → FnG P w K mg base CX k f fd [x] sp) (bind : ∀ (s : Shared) (u : Value), BindsTo s fd ⟨[u], []⟩ [(x, u)])
    (none' : ∀ H e s', CX [] H s₁ (fun _ _ _ => False) e s' → False) {H : Hp} (only : Only H) (h : sp [.ref a] H (fun v _ => v = .bl true) fun _ _ _ => False) (hok : HOk P w H s₁.heap) (at_a : ∀ b, H b ≠ none → b = a) (not_K : H a ≠ none → K.lookup a = none) :
    codeAny (model P w) callerA (.call (.ref f) ⟨[.ref a], []⟩) (fun r s' => r = .ok (.ret (.bool true)) ∧ OldK s₁.heap s'.heap ∧ s'.os = s₁.os ∧ AllBare s'.gens) s₁ := by
  have tr : ∀ {b : Addr}, H b ≠ none → H a ≠ none := fun {b} z => at_a b z ▸ z
  have nsI : ∀ {b : Addr} {m : Str → Option Value}, s₁.heap.Ns b m → (hidT s₁.heap H).Ns b m := fun {b m} ⟨o, es, ep, e, d, r⟩ => by
    refine ⟨o, es, ep, hidT_get e ?_, d, r⟩
    by_cases q : H b = none
    · exact q
    · obtain rfl := at_a b q
      rw [ha] at e
      cases e
      cases (show Data.seq vs.toArray _ = Data.dict es ep from d)
  have kinI : K.In (hidT s₁.heap H) := fun b o e => hidT_get (kin b o e) (by
    by_cases q : H b = none
    · exact q
    · obtain rfl := at_a b q
      rw [not_K q] at e
      cases e)
  obtain ⟨mc, lim1, lim2⟩ := lim
  have e0 : Env0 P w K mg (hidT s₁.heap H) callerA [] s₁ H := {
    frames := rfl
    mod := ⟨kinI, nsI hns, ⟨mb, nsI hb, hbb⟩, mc, nsI lim1, lim2⟩
    bs := fun b o e => of_hidT e
    bsz := Nat.le_of_eq (hidT_size _ _)
    funs := trivial
    frf := fun b z => absurd (show b ∈ ([] : List Addr) from z) List.not_mem_nil
    hok := hok
    bare := .of_eq gens }
  have run := F _ kinI (nsI hns) callerA [] s₁ H ⟨[.ref a], []⟩ [.ref a] [.ref a] _ _ rfl room e0 (bind s₁ (.ref a)) (.cons rfl .nil) h
  refine codeAny_mono run fun r s' z => ?_
  rcases r with e | (u | _ | _ | _)
  all_goals first | exact (none' H e s' z).elim | exact (show False from z).elim | skip
  obtain ⟨v, H', os, bare, un, hok', rv, q⟩ := z
  obtain rfl : v = .bl true := q
  cases (show _ = Value.bool true from rv)
  refine ⟨rfl, OldK.of_keep fun b o e => ?_, os, bare⟩
  cases q : H b with
  | none => exact un.keep b o e q (fun z => List.not_mem_nil (show b ∈ ([] : List Addr) from z)) List.not_mem_nil
  | some t =>
    rcases only b with z | ⟨ob, xs, z⟩
    · rw [q] at z
      cases z
    · have before := (hok b _ z).1
      rw [e] at before
      cases before
      exact (hok' b _ (un.frzs b _ _ z)).1
end
/-- the law's own call, from its promise -/
theorem walk_ofG {l : PySem.W.OpenLaw} {n k : Nat} {q : Program} {loose : List Str} {XP : (Str → Option Value) → Heap → Prop} {YP : World → Heap → Prop} {d : DefRec} {K : Params → PySem.W.Frag} {sp : World → Sp} {x : Str}
    (hn : l.most = some n) (hn2 : n ≤ sizeLine) (hdf : d.params.defaults = []) (room : Room k callerA) (hY : ∀ (w : World) (h : Heap), YP w h → (K w.params).In h)
    (F : ∀ (w : World) (mg : Str → Option Value) (fa : Addr) (h : Heap), (K w.params).In h → h.Ns mainGlobals mg → mg d.name = some (.ref fa) →
      ∃ fd : FuncData, (∀ (s : Shared) (u : Value), BindsTo s fd ⟨[u], []⟩ [(x, u)]) ∧ ∀ base : Heap, (K w.params).In base → base.Ns mainGlobals mg → FnG l.prog w (K w.params) mg base CX0 k fa fd [x] (sp w))
    (hsp : ∀ (w : World) (H : Hp) (a : Addr) (ns : List Int), ns.length ≤ n → Only H → SqL (K w.params) H a (ns.map V.int) → sp w [.ref a] H (fun v _ => v = .bl true) fun _ _ _ => False) :
    PySem.W.WalkO q loose XP YP l.row.toRowW d [] (fun f vs => PySem.call f vs) := by
  refine Att.attach_call hn hdf fun w s₀ s₁ mg mb fa o pm cd doc a vs ns G Y _ _ _ hmg obj hints short gens => ?_
  have kin := hY w _ Y
  obtain ⟨fd, bind, hF⟩ := F w mg fa _ kin G.T.g hmg
  have rv := vals_ints hints
  have lz : (ns.map V.int).length ≤ sizeLine := by rw [List.length_map]; exact Nat.le_trans short hn2
  have go : ∀ {H : Hp}, Only H → SqL (K w.params) H a (ns.map V.int) → HOk l.prog w H s₁.heap → (∀ b, H b ≠ none → b = a) → (H a ≠ none → (K w.params).lookup a = none) → _ :=
    fun {H} only seq hok at_a not_K => core kin G.T.g G.T.b G.T.builtins G.T.nolimit gens obj room hF bind (fun _ _ _ z => z) only (hsp w H a ns short only seq) hok at_a not_K
  cases hk : (K w.params).lookup a with
  | some u =>
    have e := kin a u hk
    rw [obj] at e
    cases e
    exact go (H := fun _ => none) (fun _ => .inl rfl) (.inr ⟨_, vs.toArray, _, hk, rfl, rfl, rfl, by rw [List.size_toArray, hints.length]; exact Nat.le_trans short hn2, by simpa using rv⟩)
      (fun b u z => nomatch (show (none : Option HO) = some u from z)) (fun b z => absurd rfl z) fun z => absurd rfl z
  | none =>
    let fz : HO := .frz { cls := .type "list", data := .seq vs.toArray } (.lst (ns.map V.int))
    have at_ : ∀ b, (upd (fun _ => none) a fz) b ≠ none → b = a := fun b z => by
      by_cases hb : b = a
      · exact hb
      · exact absurd (upd_ne hb) z
    refine go (H := upd (fun _ => none) a fz) (fun b => ?_) (.inl (.inr ⟨_, upd_same⟩)) (fun b u z => ?_) at_ fun _ => hk
    · by_cases hb : b = a
      · rw [hb]
        exact .inr ⟨_, _, upd_same⟩
      · exact .inl (upd_ne hb)
    · obtain rfl := at_ b (by rw [z]; exact fun q => nomatch q)
      rw [upd_same] at z
      cases z
      exact ⟨obj, lz, vs, _, rv, obj⟩
end XG

set_option Elab.async false
set_option linter.all false
set_option maxRecDepth 100000
set_option maxHeartbeats 4000000
namespace L2
open PySem PySem.Spec PyProof.Rows
/-! ### what a value shows -/
mutual
/-- v is the datum d in H; nothing of it stands at p -/
inductive Dq (p : Addr) (H : Hp) : V → PyData → Prop
  | non : Dq p H .non .none
  | bl (b : Bool) : Dq p H (.bl b) (.bool b)
  | int (i : Int) : Dq p H (.int i) (.int i)
  | str (x : Str) : Dq p H (.str x) (.str x)
  | lst {a : Addr} {xs : List V} {ds : List PyData} : H a = some (.lst xs) → a ≠ p → a ≠ sysModules → DqAll p H xs ds → Dq p H (.ref a) (.list ds)
  | tup {a : Addr} {xs : List V} {ds : List PyData} : H a = some (.tup xs) → a ≠ p → DqAll p H xs ds → Dq p H (.ref a) (.tuple ds)
  | dct {a : Addr} : H a = some (.dK []) → a ≠ p → Dq p H (.ref a) (.dict [])
inductive DqAll (p : Addr) (H : Hp) : List V → List PyData → Prop
  | nil : DqAll p H [] []
  | cons {v : V} {vs : List V} {d : PyData} {ds : List PyData} : Dq p H v d → DqAll p H vs ds → DqAll p H (v :: vs) (d :: ds)
end
mutual
theorem Dq.ex {p : Addr} {H H' : Hp} (e : ∀ b o, H b = some o → b ≠ p → H' b = some o) : ∀ {v : V} (d : PyData), Dq p H v d → Dq p H' v d
  | _, .none, .non => .non
  | _, .bool b, .bl _ => .bl b
  | _, .int i, .int _ => .int i
  | _, .str x, .str _ => .str x
  | _, .list _, .lst h m n a => .lst (e _ _ h m) m n (DqAll.ex e _ a)
  | _, .tuple _, .tup h m a => .tup (e _ _ h m) m (DqAll.ex e _ a)
  | _, .dict _, .dct h m => .dct (e _ _ h m) m
theorem DqAll.ex {p : Addr} {H H' : Hp} (e : ∀ b o, H b = some o → b ≠ p → H' b = some o) : ∀ {vs : List V} (ds : List PyData), DqAll p H vs ds → DqAll p H' vs ds
  | _, [], .nil => .nil
  | _, _ :: _, .cons h t => .cons (Dq.ex e _ h) (DqAll.ex e _ t)
end
section
variable {X : Cx} {pins : List (Addr × Obj)} {σ : St} {H : Hp} {s : Shared} {q : Addr}
mutual
theorem Dq.reads (I : Inv X pins σ H s) : ∀ (d : PyData) (v : V) (u : Value), Dq q H v d → RelV v u → ∃ as, Reads s.heap u d as ∧ sysModules ∉ as
  | .none, _, _, h, r => by
    cases h
    cases r
    exact ⟨_, Reads.none, List.not_mem_nil⟩
  | .bool b, _, _, h, r => by
    cases h
    cases r
    exact ⟨_, Reads.bool b, List.not_mem_nil⟩
  | .int i, _, _, h, r => by
    cases h
    obtain ⟨t, rfl⟩ := r
    exact ⟨_, Reads.int i t, List.not_mem_nil⟩
  | .str x, _, _, h, r => by
    cases h
    obtain ⟨t, rfl⟩ := r
    exact ⟨_, Reads.str x t, List.not_mem_nil⟩
  | .list ds, _, _, h, r => by
    cases h with
    | lst hs _ n ha =>
      cases r
      obtain ⟨_, its, m, rv, g⟩ := (show ObjOk X.prog X.w H s.heap _ (.lst _) from I.hok _ _ hs)
      obtain ⟨as, hr, hn⟩ := DqAll.reads I ds _ its ha rv
      exact ⟨_, Reads.list g rfl rfl (by simpa using hr), fun z => by
        rcases List.mem_cons.mp z with z | z
        · exact n z.symm
        · exact hn z⟩
  | .tuple ds, _, _, h, r => by
    cases h with
    | tup hs _ ha =>
      cases r
      obtain ⟨_, its, rv, o, g, c, n, dt⟩ := (show ObjOk X.prog X.w H s.heap _ (.tup _) from I.hok _ _ hs)
      obtain ⟨as, hr, hn⟩ := DqAll.reads I ds _ its ha rv
      exact ⟨_, Reads.tuple g c dt (by simpa using hr), hn⟩
  | .dict [], _, _, h, r => by
    cases h with
    | @dct a hs _ =>
      cases r
      obtain ⟨_, ne, vs, rel, o, es, ep, g, ty, dt, hk⟩ := dk_of I.hok hs
      cases rel
      obtain ⟨_, prs, _⟩ := hk
      have z : es.toList = [] := by
        cases h0 : es.toList with
        | nil => rfl
        | cons a r =>
          rw [h0] at prs
          cases prs
      have z2 : es = #[] := Array.toList_inj.mp z
      subst z2
      exact ⟨_, Reads.dict (as := []) (bs := []) g ty.1 dt .nil .nil, fun q => by
        have q' : sysModules = a := by simpa using q
        exact absurd q'.symm (beq_eq_false_iff_ne.mp ne)⟩
  | .dict (_ :: _), _, _, h, _ => by cases h
theorem DqAll.reads (I : Inv X pins σ H s) : ∀ (ds : List PyData) (vs : List V) (us : List Value), DqAll q H vs ds → Vals vs us → ∃ as, ReadsAll s.heap us ds as ∧ sysModules ∉ as
  | [], _, _, h, r => by
    cases h
    cases r
    exact ⟨_, ReadsAll.nil, List.not_mem_nil⟩
  | d :: ds, _, _, h, r => by
    cases h with
    | cons h1 h2 =>
      cases r with
      | cons r1 r2 =>
        obtain ⟨as, a1, n1⟩ := Dq.reads I d _ _ h1 r1
        obtain ⟨bs, a2, n2⟩ := DqAll.reads I ds _ _ h2 r2
        exact ⟨_, ReadsAll.cons a1 a2, fun z => (List.mem_append.mp z).elim n1 n2⟩
end
/-- repr(v) -/
def rRepr : List V → Hp → VK → Prop := fun xs H Q => ∃ (p : Addr) (v : V) (d : PyData), xs = [v] ∧ Dq p H v d ∧ d.showable = true ∧ d.depth ≤ 60 ∧ d.shown.length ≤ 100000 ∧ Q (.str d.shown) H
theorem call_reprG (hg : X.A.guards = some []) (hu : X.A.units + 64 < cLine) : CallR X (.builtin "repr") rRepr := by
  intro pins s σ H xs us Q I r h
  obtain ⟨p, v, d, rfl, hd, sh, dp, sz, q⟩ := h
  obtain ⟨u, rfl, ru⟩ := vals1 r
  have sz' : d.shown.length ≤ sizeLine := by rw [sizeLine_eq]; omega
  have by_ref : ∀ a : Addr, u = .ref a → wpAny (model X.prog X.w) X.A (call (.builtin "repr") [u]) (EP X pins σ Q) X.xe s := by
    rintro a rfl
    obtain ⟨as, rd, nm⟩ := hd.reads I d v _ ru
    exact repr_of_reads' rd sh (fun _ => nm) hg (by omega) (fun _ _ z => z) (fun h' u tk hk => ⟨.str _, H, I.kept (t' := tk) hk, ⟨u, rfl⟩, q⟩) sz'
  cases hd with
  | non =>
    cases ru
    exact PySem.P.repr_of_none ⟨.str _, H, I.tok _, ⟨_, rfl⟩, q⟩
  | bl b =>
    cases ru
    refine PySem.P.repr_of_bool ⟨.str _, H, I.tok _, ⟨_, rfl⟩, ?_⟩
    cases b <;> exact q
  | int i =>
    obtain ⟨t, rfl⟩ := ru
    exact PySem.P.repr_of_int (of_decide_eq_true sh) ⟨.str _, H, I.tok _, ⟨_, rfl⟩, q⟩
  | str x =>
    obtain ⟨t, rfl⟩ := ru
    exact PySem.P.repr_of_str ⟨.str _, H, I.tok _, ⟨_, rfl⟩, q⟩ (hsz := sz')
  | lst _ _ _ _ => exact by_ref _ ru
  | tup _ _ _ => exact by_ref _ ru
  | dct _ _ => exact by_ref _ ru
/-- [a, b, ..], told that it is not the table of modules -/
def tLstN (t : TA) : TE := fun σ H Q => t σ H fun xs H1 => xs.length ≤ sizeLine ∧ ∀ p, H1 p = none → p ≠ sysModules → Q (.ref p) (upd H1 p (.lst xs))
theorem pe_lstN {es : List Expr} {t : TA} {pos : Pos} (h : PA X es t) : PE X (.List es pos) (tLstN t) := by
  refine ⟨fun pins s σ H Q I hq => wpAny_List_spliced (thn (h.run pos pins s σ H _ I hq) fun us s1 ⟨xs, H1, I1, r, z, q⟩ => ⟨r.length ▸ z, ?_⟩)⟩
  have big : sysModules < s1.heap.objs.size := I1.big
  refine ⟨.ref s1.heap.objs.size, _, I1.laid (t' := s1.toks) (fun b u e => Heap.get?_push_of_some _ e) (Nat.le_refl _) ?_, rfl, q _ (I1.hok.fresh (Nat.le_refl _)) (Nat.ne_of_gt big)⟩
  exact ⟨z, us, 0, r, Heap.get?_push_size _ rfl⟩
variable {C : Addr} {x : Str} {p pos : Pos} {e : Expr} {es : List Expr} {t : TA} {bmB : List Value} {B newId initId : String}
/-- C(), C an own exception class without __init__ -/
def tExc0 (C : Addr) : TE := fun _ H Q => ∀ a, H a = none → Q (.ref a) (upd H a (exo a C none))
theorem pe_excv0 (F : ExcBaseFacts B newId initId bmB) (q : PySem.W.excIn X.K C bmB newId = true) (gC : X.mg x = some (.ref C)) (kC : PySem.W.keepIn X.K (.ref C) = true) (hg : Gl X x) (hdb : (x == ("__debug__" : Str)) = false := by decide) :
    PE X (.Call (.Name x p) [] [] pos) (tExc0 C) := by
  refine ⟨fun pins s σ H Q I h => wpAny_Call_Name_kw (ld_glob I hg gC ?_ hdb)⟩
  exact PySem.W.callWith_K0 I.kIn kC (run_exc (us := []) F q I (by decide) h)
/-- C(e) of such a class -/
def tExc1 (C : Addr) (te : TE) : TE := fun σ H Q => te σ H fun _ H1 => ∀ a, H1 a = none → Q (.ref a) (upd H1 a (exo a C none))
theorem pe_excv1 {te : TE} (F : ExcBaseFacts B newId initId bmB) (q : PySem.W.excIn X.K C bmB newId = true) (gC : X.mg x = some (.ref C)) (kC : PySem.W.keepIn X.K (.ref C) = true) (hg : Gl X x) (he : PE X e te)
    (hs : starEach [e] X.env = (false, eval e X.env) :: starEach [] X.env := by rfl) (hdb : (x == ("__debug__" : Str)) = false := by decide) : PE X (.Call (.Name x p) [e] [] pos) (tExc1 C te) := by
  refine ⟨fun pins s σ H Q I h => wpAny_Call_Name_kw (ld_glob I hg gC ?_ hdb)⟩
  refine PySem.W.callWith_K (h₀ := X.base) I.ok.mod.kin kC ?_ hs (by rfl)
  rw [hs]
  show wpAny _ _ (spliced ((false, eval e X.env) :: backTo pos (starEach [] X.env))) _ _ s
  refine Calls.spliced_cons (thn (he.run pins s σ H _ I h) fun u s1 ⟨v, H1, I1, r1, q1⟩ => Calls.spliced_nil ⟨I1.kIn, ?_⟩)
  exact run_exc (us := [u]) F q I1 (by show 1 ≤ 1000; decide) q1
end
/-! ### __init__(self, f): self.f = f -/
def spInit1 (K : PySem.W.Frag) (f : Str) : Sp := fun vs H Q _ => ∃ (a C : Addr) (y : V), vs = [.ref a, y] ∧ OexC K C ∧ PySem.W.findIn K (.ref C) f = some none ∧ H a = some (exo a C none) ∧
  ∀ d, H d = none → d ≠ a → Q .non (upd (upd H d (exd d [(f, y)])) a (exo a C (some d)))
def spInit2 (K : PySem.W.Frag) (f g : Str) : Sp := fun vs H Q _ => ∃ (a C : Addr) (y z : V), vs = [.ref a, y, z] ∧ OexC K C ∧ PySem.W.findIn K (.ref C) f = some none ∧ PySem.W.findIn K (.ref C) g = some none ∧ H a = some (exo a C none) ∧
  ∀ d, H d = none → d ≠ a → Q .non (upd (upd (upd H d (exd d [(f, y)])) a (exo a C (some d))) d (exd d [(g, z), (f, y)]))
theorem vis_of {N Ps : List Str} {sc : Scope} (S : FnScope N Ps sc) {x : Str} (h : x ∈ Ps) : Vis sc x := by
  rcases S.par x h with e | e
  · exact Or.inl e
  · exact Or.inr (Or.inl e)
section
variable {P : Program} {w : World} {K : PySem.W.Frag} {mg : Str → Option Value} {base : Heap} {fI : Addr} {fd : FuncData} {qual f g : Str} {st : Stmt} {q1 q2 q3 q4 r1 r2 r3 r4 : Pos}
theorem ok_init1 (F : Fun K "__init__" qual st fI fd) (hb : defBody st = [.Assign [.Attribute (.Name "self" q1) f q2] (.Name f q3) q4]) (S : FnScope ["self", f] ["self", f] (defScope st))
    (hs : ∀ env : Env, swapsWith (.Name f q3) (some (.Attribute (.Name "self" q1) f q2)) q4.line env = pure false) (h1 : (f == ("__debug__" : Str)) = false) (h2 : (f == ("__classdict__" : Str)) = false) : FnOk P w K mg base CX0 1 fI fd ["self", f] (spInit1 K f) := by
  refine F.ok S (fun vs H Q E h => ?_) (fun cdv A outer s H vs Q E hr h => ?_)
  · obtain ⟨a, C, y, rfl, _⟩ := h
    rfl
  · obtain ⟨a, C, y, rfl, T, hf, ea, k⟩ := h
    rw [hb]
    refine ⟨_, pss_one (ps_ost (pe_var (i := 0) rfl (vis_of S (by simp))) (pe_var (i := 1) rfl (vis_of S (by simp)) h1 h2) (hs _)), ?_⟩
    exact ⟨_, rfl, _, rfl, a, C, rfl, T, hf, .inl ⟨ea, k⟩⟩
theorem ok_init2 (F : Fun K "__init__" qual st fI fd) (hb : defBody st = [.Assign [.Attribute (.Name "self" q1) f q2] (.Name f q3) q4, .Assign [.Attribute (.Name "self" r1) g r2] (.Name g r3) r4]) (S : FnScope ["self", f, g] ["self", f, g] (defScope st))
    (hs : ∀ env : Env, swapsWith (.Name f q3) (some (.Attribute (.Name "self" q1) f q2)) q4.line env = pure false) (hs2 : ∀ env : Env, swapsWith (.Name g r3) (some (.Attribute (.Name "self" r1) g r2)) r4.line env = pure false)
    (h1 : (f == ("__debug__" : Str)) = false) (h2 : (f == ("__classdict__" : Str)) = false) (h3 : (g == ("__debug__" : Str)) = false) (h4 : (g == ("__classdict__" : Str)) = false) : FnOk P w K mg base CX0 1 fI fd ["self", f, g] (spInit2 K f g) := by
  refine F.ok S (fun vs H Q E h => ?_) (fun cdv A outer s H vs Q E hr h => ?_)
  · obtain ⟨a, C, y, z, rfl, _⟩ := h
    rfl
  · obtain ⟨a, C, y, z, rfl, T, hf, hg, ea, k⟩ := h
    rw [hb]
    refine ⟨_, pss_cons (ps_ost (pe_var (i := 0) rfl (vis_of S (by simp))) (pe_var (i := 1) rfl (vis_of S (by simp)) h1 h2) (hs _))
      (pss_one (ps_ost (pe_var (i := 0) rfl (vis_of S (by simp))) (pe_var (i := 2) rfl (vis_of S (by simp)) h3 h4) (hs2 _))), ?_⟩
    refine ⟨_, rfl, _, rfl, a, C, rfl, T, hf, .inl ⟨ea, fun d hd ne => ?_⟩⟩
    exact ⟨_, rfl, _, rfl, a, C, rfl, T, hg, .inr ⟨d, [(f, y)], upd_same, by rw [upd_ne ne, upd_same], (by show 1 ≤ 900; decide), k d hd ne⟩⟩
/-- how a call with keywords binds: no defaults -/
theorem Fun.kbn {x : Str} {ps ks : List Str} {n : Nat} {gv : List Value → List Value → List Value} {gV : List V → List V → List V} (F : Fun K x qual st fI fd)
    (hrel : ∀ {vs : List V} {us : List Value} {zs : List V} {ws : List Value}, Vals vs us → Vals zs ws → Vals (gV vs zs) (gv us ws))
    (h : ∀ (kV doc pm : Value) (an : Option Addr) (cdv ct : Value) (us ws : List Value), us.length = n → ws.length = ks.length → bindArgs (PySem.W.fnOf x qual (defArgs st) (defBody st) (defScope st) .none kV doc pm an cdv ct) ⟨us, ks.zip ws⟩ = pure (ps.zip (gv us ws))) : KBn K fd ps n ks gv gV := by
  obtain ⟨oc, od, kV, doc, pm, an, cdv, ct, osl, rfl, lk, hcd⟩ := F.ex
  exact ⟨fun s us ws X l1 l2 => .of_eq (h kV doc pm an cdv ct us ws l1 l2), hrel⟩
end
end L2

set_option Elab.async false
set_option linter.all false
set_option maxRecDepth 100000
set_option maxHeartbeats 4000000
/-! What an expression leaves, by a property that lasts. -/
namespace EvP
open PySem L2
def Ex (H H' : Hp) : Prop := ∀ a o, H a = some o → H' a = some o
theorem Ex.refl (H : Hp) : Ex H H := fun _ _ h => h
theorem Ex.trans {H H1 H2 : Hp} (a : Ex H H1) (b : Ex H1 H2) : Ex H H2 := fun x o h => b x o (a x o h)
theorem Ex.new {H : Hp} {p : Addr} {o : HO} (h : H p = none) : Ex H (upd H p o) := fun a u e => by rw [upd_ne (ne_of_none e h)]; exact e
theorem Ex.back {H H' : Hp} (e : Ex H H') {p : Addr} (h : H' p = none) : H p = none := by
  cases h1 : H p with
  | none => rfl
  | some o =>
    rw [e p o h1] at h
    cases h
/-- a property of a value that lasts while objects are only added -/
structure PR where
  R : V → Hp → Prop
  mono : ∀ v H H', Ex H H' → R v H → R v H'
/-- te gives a value with R, and only adds -/
def Gives (te : TE) (σ : St) (H : Hp) (P : PR) : Prop := ∀ H1, Ex H H1 → ∀ Q : VK, (∀ v H2, Ex H1 H2 → P.R v H2 → Q v H2) → te σ H1 Q
inductive All2 (H : Hp) : List PR → List V → Prop
  | nil : All2 H [] []
  | cons {P : PR} {Ps : List PR} {v : V} {vs : List V} : P.R v H → All2 H Ps vs → All2 H (P :: Ps) (v :: vs)
theorem All2.ex {H H' : Hp} (e : Ex H H') : ∀ {Ps : List PR} {vs : List V}, All2 H Ps vs → All2 H' Ps vs
  | _, _, .nil => .nil
  | _, _, .cons h t => .cons (PR.mono _ _ _ _ e h) (All2.ex e t)
theorem All2.length {H : Hp} : ∀ {Ps : List PR} {vs : List V}, All2 H Ps vs → vs.length = Ps.length
  | _, _, .nil => rfl
  | _, _, .cons _ t => congrArg Nat.succ (All2.length t)
theorem All2.append {H : Hp} : ∀ {Ps Qs : List PR} {vs ws : List V}, All2 H Ps vs → All2 H Qs ws → All2 H (Ps ++ Qs) (vs ++ ws)
  | _, _, _, _, .nil, k => k
  | _, _, _, _, .cons h t, k => .cons h (All2.append t k)
theorem All2.get {H : Hp} : ∀ {Ps : List PR} {vs : List V} {i : Nat} {P : PR}, All2 H Ps vs → Ps[i]? = some P → ∃ v, vs[i]? = some v ∧ P.R v H
  | _, _, _, _, .nil, e => by simp at e
  | _, _, 0, _, .cons h _, e => by
    simp at e
    subst e
    exact ⟨_, rfl, h⟩
  | _, _, i + 1, _, .cons _ t, e => by
    obtain ⟨v, h1, h2⟩ := All2.get (i := i) t (by simpa using e)
    exact ⟨v, by simpa using h1, h2⟩
def GivesA (ta : TA) (σ : St) (H : Hp) (Ps : List PR) : Prop := ∀ H1, Ex H H1 → ∀ Q : List V → Hp → Prop, (∀ vs H2, Ex H1 H2 → All2 H2 Ps vs → Q vs H2) → ta σ H1 Q
/-- this very value -/
def is (v : V) : PR := ⟨fun u _ => u = v, fun _ _ _ _ h => h⟩
/-- a tuple of such -/
def tup (Ps : List PR) : PR := ⟨fun u H => ∃ a vs, u = .ref a ∧ H a = some (.tup vs) ∧ All2 H Ps vs, fun _ _ _ e ⟨a, vs, h1, h2, h3⟩ => ⟨a, vs, h1, e _ _ h2, h3.ex e⟩⟩
/-- a list of such, new over H0 -/
def lst (H0 : Hp) (Ps : List PR) : PR := ⟨fun u H => ∃ a vs, u = .ref a ∧ H a = some (.lst vs) ∧ H0 a = none ∧ All2 H Ps vs, fun _ _ _ e ⟨a, vs, h1, h2, h0, h3⟩ => ⟨a, vs, h1, e _ _ h2, h0, h3.ex e⟩⟩
/-- the same, and not the table of modules -/
def lstN (H0 : Hp) (Ps : List PR) : PR := ⟨fun u H => ∃ a vs, u = .ref a ∧ H a = some (.lst vs) ∧ H0 a = none ∧ a ≠ sysModules ∧ All2 H Ps vs, fun _ _ _ e ⟨a, vs, h1, h2, h0, hn, h3⟩ => ⟨a, vs, h1, e _ _ h2, h0, hn, h3.ex e⟩⟩
/-- an exception of the class at C with these fields -/
def err (C : Addr) (fs : List (Str × V)) : PR := ⟨fun u H => ∃ a, u = .ref a ∧ ErrAt H a C fs, fun _ _ _ e ⟨a, h1, h2⟩ => ⟨a, h1, h2.ex e⟩⟩
section
variable {K : PySem.W.Frag} {σ : St} {H : Hp} {te tf : TE} {ta tb : TA} {P : PR} {Ps Qs : List PR} {v : V} {i : Nat} {C fI : Addr} {f g : Str} {x y z : V}
theorem var (h : σ[i]? = some (some v)) : Gives (tVar i) σ H (is v) := fun H1 _ _ q => ⟨v, h, q _ _ (Ex.refl H1) rfl⟩
theorem cst : Gives (tC v) σ H (is v) := fun H1 _ _ q => q _ _ (Ex.refl H1) rfl
theorem nil : GivesA tNil σ H [] := fun H1 _ _ q => q _ _ (Ex.refl H1) .nil
theorem cons (h : Gives te σ H P) (t : GivesA ta σ H Ps) : GivesA (tCons te ta) σ H (P :: Ps) := fun H1 e Q q =>
  h H1 e _ fun v H2 e2 hv => t H2 (e.trans e2) _ fun vs H3 e3 hs => q _ _ (e2.trans e3) (.cons (P.mono _ _ _ e3 hv) hs)
theorem tuple (h : GivesA ta σ H Ps) (hl : Ps.length ≤ 1000) : Gives (tTup ta) σ H (tup Ps) := fun H1 e Q q =>
  h H1 e _ fun vs H2 e2 hs => ⟨by rw [hs.length, sizeLine_eq]; omega, fun p hp => q _ _ (e2.trans (Ex.new hp)) ⟨p, vs, rfl, upd_same, hs.ex (Ex.new hp)⟩⟩
theorem list {H0 : Hp} (e0 : Ex H0 H) (h : GivesA ta σ H Ps) (hl : Ps.length ≤ 1000) : Gives (tLst ta) σ H (lst H0 Ps) := fun H1 e Q q =>
  h H1 e _ fun vs H2 e2 hs => ⟨by rw [hs.length, sizeLine_eq]; omega, fun p hp => q _ _ (e2.trans (Ex.new hp)) ⟨p, vs, rfl, upd_same, ((e0.trans e).trans e2).back hp, hs.ex (Ex.new hp)⟩⟩
theorem listN {H0 : Hp} (e0 : Ex H0 H) (h : GivesA ta σ H Ps) (hl : Ps.length ≤ 1000) : Gives (tLstN ta) σ H (lstN H0 Ps) := fun H1 e Q q =>
  h H1 e _ fun vs H2 e2 hs => ⟨by rw [hs.length, sizeLine_eq]; omega, fun p hp hn => q _ _ (e2.trans (Ex.new hp)) ⟨p, vs, rfl, upd_same, ((e0.trans e).trans e2).back hp, hn, hs.ex (Ex.new hp)⟩⟩
/-- xs + ys, both new -/
theorem cat {H0 : Hp} (e0 : Ex H0 H) (h : Gives te σ H (lst H0 Ps)) (k : Gives tf σ H (lst H0 Qs)) (hl : Ps.length + Qs.length ≤ 1000) : Gives (tOp rCat te tf) σ H (lst H0 (Ps ++ Qs)) := fun H1 e Q q => by
  refine h H1 e _ fun v H2 e2 hv => k H2 (e.trans e2) _ fun u H3 e3 hu => ?_
  obtain ⟨a, vs, rfl, ha, na, va⟩ := (lst H0 Ps).mono _ _ _ e3 hv
  obtain ⟨b, ws, rfl, hb, nb, vb⟩ := hu
  refine ⟨a, b, vs, ws, rfl, rfl, ha, hb, by rw [va.length, vb.length, sizeLine_eq]; omega, fun p hp => ?_⟩
  exact q _ _ ((e2.trans e3).trans (Ex.new hp)) ⟨p, _, rfl, upd_same, (((e0.trans e).trans e2).trans e3).back hp, (va.append vb).ex (Ex.new hp)⟩
theorem varP (h : σ[i]? = some (some v)) (hp : P.R v H) : Gives (tVar i) σ H P := fun H1 e _ q => ⟨v, h, q _ _ (Ex.refl H1) (P.mono _ _ _ e hp)⟩
/-- C(e): the one field -/
theorem err1 {gV : List V → List V → List V} (T : OexC K C) (hf : PySem.W.findIn K (.ref C) f = some none) (h : Gives te σ H (is y)) (hg : ∀ a u, gV [.ref a, u] [] = [.ref a, u]) : Gives (tMkV C 1 0 (spInit1 K f) gV E0 (tCons te tNil) tNil) σ H (err C [(f, y)]) := fun H1 e Q q =>
  h H1 e _ fun v H2 e2 hv => ⟨rfl, rfl, fun a ha => by
    rw [hg, show v = y from hv]
    refine ⟨a, C, y, rfl, T, hf, upd_same, fun d hd ne => ⟨rfl, q _ _ (e2.trans ?_) ⟨a, rfl, .inr ⟨d, upd_same, by rw [upd_ne ne, upd_same]⟩⟩⟩⟩
    have hd' : H2 d = none := by rw [upd_ne ne] at hd; exact hd
    intro b o z
    rw [upd_ne (ne_of_none z ha), upd_ne (ne_of_none z hd'), upd_ne (ne_of_none z ha)]
    exact z⟩
/-- C(f = e) -/
theorem err1K {gV : List V → List V → List V} (T : OexC K C) (hf : PySem.W.findIn K (.ref C) f = some none) (h : Gives te σ H (is y)) (hg : ∀ a u, gV [.ref a] [u] = [.ref a, u]) : Gives (tMkV C 0 1 (spInit1 K f) gV E0 tNil (tCons te tNil)) σ H (err C [(f, y)]) := fun H1 e Q q =>
  h H1 e _ fun v H2 e2 hv => ⟨rfl, rfl, fun a ha => by
    rw [hg, show v = y from hv]
    refine ⟨a, C, y, rfl, T, hf, upd_same, fun d hd ne => ⟨rfl, q _ _ (e2.trans ?_) ⟨a, rfl, .inr ⟨d, upd_same, by rw [upd_ne ne, upd_same]⟩⟩⟩⟩
    have hd' : H2 d = none := by rw [upd_ne ne] at hd; exact hd
    intro b o z
    rw [upd_ne (ne_of_none z ha), upd_ne (ne_of_none z hd'), upd_ne (ne_of_none z ha)]
    exact z⟩
theorem init2_end {H1 H2 : Hp} {Q : VK} {a d : Addr} (e : Ex H1 H2) (ha : H2 a = none) (hd : upd H2 a (exo a C none) d = none) (ne : d ≠ a) (q : ∀ v H3, Ex H1 H3 → (err C [(g, z), (f, y)]).R v H3 → Q v H3) :
    Q (.ref a) (upd (upd (upd (upd H2 a (exo a C none)) d (exd d [(f, y)])) a (exo a C (some d))) d (exd d [(g, z), (f, y)])) := by
  have hd' : H2 d = none := by rw [upd_ne ne] at hd; exact hd
  refine q _ _ (e.trans fun b o w => ?_) ⟨a, rfl, .inr ⟨d, by rw [upd_ne ne.symm, upd_same], upd_same⟩⟩
  rw [upd_ne (ne_of_none w hd'), upd_ne (ne_of_none w ha), upd_ne (ne_of_none w hd'), upd_ne (ne_of_none w ha)]
  exact w
/-- C(f = e, g = e') in the written order of the two -/
theorem err2K {gV : List V → List V → List V} (T : OexC K C) (hf : PySem.W.findIn K (.ref C) f = some none) (hg0 : PySem.W.findIn K (.ref C) g = some none) (h : Gives te σ H (is z)) (k : Gives tf σ H (is y))
    (hg : ∀ a u w, gV [.ref a] [u, w] = [.ref a, w, u]) : Gives (tMkV C 0 2 (spInit2 K f g) gV E0 tNil (tCons te (tCons tf tNil))) σ H (err C [(g, z), (f, y)]) := fun H1 e Q q =>
  h H1 e _ fun v H2 e2 hv => k H2 (e.trans e2) _ fun u H3 e3 hu => ⟨rfl, rfl, fun a ha => by
    rw [hg, show v = z from hv, show u = y from hu]
    exact ⟨a, C, y, z, rfl, T, hf, hg0, upd_same, fun d hd ne => ⟨rfl, init2_end (e2.trans e3) ha hd ne q⟩⟩⟩
/-- C(e, g = e') -/
theorem err2P {gV : List V → List V → List V} (T : OexC K C) (hf : PySem.W.findIn K (.ref C) f = some none) (hg0 : PySem.W.findIn K (.ref C) g = some none) (h : Gives te σ H (is y)) (k : Gives tf σ H (is z))
    (hg : ∀ a u w, gV [.ref a, u] [w] = [.ref a, u, w]) : Gives (tMkV C 1 1 (spInit2 K f g) gV E0 (tCons te tNil) (tCons tf tNil)) σ H (err C [(g, z), (f, y)]) := fun H1 e Q q =>
  h H1 e _ fun v H2 e2 hv => k H2 (e.trans e2) _ fun u H3 e3 hu => ⟨rfl, rfl, fun a ha => by
    rw [hg, show v = y from hv, show u = z from hu]
    exact ⟨a, C, y, z, rfl, T, hf, hg0, upd_same, fun d hd ne => ⟨rfl, init2_end (e2.trans e3) ha hd ne q⟩⟩⟩
theorem err0 : Gives (tExc0 C) σ H (err C []) := fun H1 _ Q q a ha => q _ _ (Ex.new ha) ⟨a, rfl, .inl ⟨rfl, upd_same⟩⟩
variable {u : TS} {D : Ends}
theorem st_set (h : Gives te σ H P) (k : ∀ v H1, Ex H H1 → P.R v H1 → u D (σ.set i (some v)) H1) : tSeq (tAsg te (gName i)) u D σ H := h H (Ex.refl H) _ k
theorem go {Q : VK} (h : Gives te σ H P) (k : ∀ v H1, Ex H H1 → P.R v H1 → Q v H1) : te σ H Q := h H (Ex.refl H) _ k
theorem st_ret (h : Gives te σ H P) (k : ∀ v H1, Ex H H1 → P.R v H1 → D.rt v H1) : tRet te D σ H := h H (Ex.refl H) _ k
end
end EvP

set_option Elab.async false
set_option linter.all false
set_option maxRecDepth 100000
set_option maxHeartbeats 4000000
/-! The text of a number below 10 ^ 64. -/
namespace Fk
open PySem PySem.Spec PyProof.Rows L2
abbrev sNum : Stmt := top 25
/-- the text of a number -/
def numT (n : Int) : Str := Str.ofString (toString n)
def spNum : Sp := fun vs H Q _ => ∃ n : Int, vs = [.int n] ∧ 0 ≤ n ∧ n < 10 ^ 64 ∧ ∀ H', EvP.Ex H H' → Q (.str (numT n)) H'
theorem scNum : FnScope ["number", "parts", "rest"] ["number"] (defScope sNum) := ⟨rfl, rfl, rfl, by decide +kernel, rfl, by decide +kernel, by decide +kernel⟩
theorem log_small {n : Int} (h0 : 0 ≤ n) (h1 : n < 10 ^ 64) : n.natAbs.log2 < 1920 := by
  by_cases h : n.natAbs = 0
  · rw [h]
    decide
  · refine (Nat.log2_lt h).mpr ?_
    have : n.natAbs < 10 ^ 64 := by omega
    exact Nat.lt_of_lt_of_le this (by decide)
theorem pss_dead {X : Cx} {st : List Stmt} : PSs X st (fun _ _ _ => False) := ⟨fun _ _ _ _ _ _ h => h.elim⟩
section
variable {P : Program} {w : World} {K : PySem.W.Frag} {mg : Str → Option Value} {base : Heap} {f : Addr} {fd : FuncData}
theorem ok_num (F : Fun K "number_text" "number_text" sNum f fd) (T : Blt mg) : FnOk P w K mg base CX0 1 f fd ["number"] spNum := by
  have nd := scNum.nd
  refine F.ok scNum (fun vs H Q E h => ?_) (fun cdv A outer s H vs Q E hr h => ?_)
  · obtain ⟨n, rfl, _⟩ := h
    rfl
  · obtain ⟨n, rfl, h0, h1, q⟩ := h
    refine ⟨_, pss_cons (ps_set (i := 1) nd rfl (Or.inl rfl) (pe_lst pa_nil)) (pss_cons (ps_while PassesOwn.never (pt_cmpR op_ge (pv 0) (pe_op op_pow pe_int pe_int) (nomark _)) pss_dead)
      (pss_one (ps_ret (pe_join pe_str (pe_lst (pa_cons (pe_callTy call_str_int (by rfl) T.str (by decide +kernel) (pa_cons (pv 0) pa_nil)) (StX.pa_star (pe_revL (pv 1)) pa_nil))))))), ?_⟩
    refine ⟨by show 0 ≤ sizeLine; decide, fun p hp => ?_⟩
    have e1 := EvP.Ex.new (o := .lst []) hp
    refine ⟨fun m s h => s = [some (.int n), some (.ref p), none] ∧ h = upd H p (.lst []), ⟨0, rfl, rfl⟩, fun m σ H' h => ?_⟩
    obtain ⟨rfl, rfl⟩ := h
    refine ⟨_, rfl, 10, 64, rfl, rfl, ⟨by decide, by decide, by decide⟩, _, _, rfl, rfl, _, rfl, ?_⟩
    have hz : decide ((10 : Int) ^ (64 : Int).toNat ≤ n) = false := decide_eq_false (by
      show ¬ (10 : Int) ^ 64 ≤ n
      omega)
    rw [hz]
    refine ⟨⟨_, rfl⟩, _, rfl, n, rfl, ?_, _, rfl, p, [], rfl, SqL.of upd_same, fun r hr' => ?_⟩
    · exact log_small h0 h1
    · refine ⟨_, _, rfl, .inr (SqL.of upd_same), by show 1 ≤ sizeLine; decide, fun t ht => ?_⟩
      have e2 := EvP.Ex.new (o := .lst []) hr'
      refine ⟨_, t, [numT n], rfl, rfl, .inl (SqL.of upd_same), ?_, q _ ((e1.trans e2).trans (EvP.Ex.new ht))⟩
      have := toString_length_le h0 (by decide) h1
      show (Str.ofString (toString n)).length + 0 + (1 : Nat) * 0 ≤ 16777216
      omega
end
end Fk

set_option Elab.async false
set_option linter.all false
set_option maxRecDepth 100000
set_option maxHeartbeats 4000000
/-! Comprehensions that only add objects. -/
namespace Cm
open PySem PySem.Spec PyProof.Rows L2 EvP
/-- an iterable whose items are xs, while objects are only added -/
def Walks (wi : TI) (σ : L2.St) (H : Hp) (xs : List V) : Prop := ∀ H1, Ex H H1 → ∀ R : It → Hp → Prop, (∀ J H2, Ex H1 H2 → (∃ G : Hp → Prop, Walk J xs.length G (YAt xs) ∧ ∀ H3, Ex H2 H3 → G H3) → R J H2) → wi σ H1 R
/-- a list, a tuple of just these -/
def lstV (xs : List V) : PR := ⟨fun v H => ∃ a, v = .ref a ∧ H a = some (.lst xs), fun _ _ _ e ⟨a, h1, h2⟩ => ⟨a, h1, e _ _ h2⟩⟩
def tupV (xs : List V) : PR := ⟨fun v H => ∃ a, v = .ref a ∧ H a = some (.tup xs), fun _ _ _ e ⟨a, h1, h2⟩ => ⟨a, h1, e _ _ h2⟩⟩
section
variable {K : PySem.W.Frag} {σ : L2.St} {H : Hp} {tl te : TE} {tt : TT} {xs : List V} {vs : List Nat} {i : Nat} {wi : TI}
theorem walks_list (h : Gives tl σ H (lstV xs)) : Walks (iList K tl) σ H xs := fun H1 e R r =>
  h H1 e _ fun v H2 e2 ⟨a, ev, ha⟩ => ⟨a, ev, ⟨xs, SqL.of ha⟩, r _ _ e2 ⟨_, walk_list, fun H3 e3 => SqL.of (e3 _ _ ha)⟩⟩
theorem walks_tup (h : Gives tl σ H (tupV xs)) : Walks (iTup K tl) σ H xs := fun H1 e R r =>
  h H1 e _ fun v H2 e2 ⟨a, ev, ha⟩ => ⟨a, ev, ⟨xs, SqT.of ha⟩, r _ _ e2 ⟨_, walk_tup, fun H3 e3 => SqT.of (e3 _ _ ha)⟩⟩
theorem all2_snoc {H : Hp} : ∀ {Ps : List PR} {vs : List V} {P : PR} {v : V}, All2 H Ps vs → P.R v H → All2 H (Ps ++ [P]) (vs ++ [v])
  | _, _, _, _, .nil, h => .cons h .nil
  | _, _, _, _, .cons a t, h => .cons a (all2_snoc t h)
/-- what a list that grows does not touch -/
def Stays (P : PR) : Prop := ∀ v H D ys zs, P.R v H → H D = some (.lst ys) → P.R v (upd H D (.lst zs))
theorem all2_stays {H : Hp} {D : Addr} {ys zs : List V} (hD : H D = some (.lst ys)) : ∀ {Ps : List PR} {vs : List V}, (∀ P ∈ Ps, Stays P) → All2 H Ps vs → All2 (upd H D (.lst zs)) Ps vs
  | _, _, _, .nil => .nil
  | _, _, s, .cons a t => .cons (s _ (.head _) _ _ _ _ _ a hD) (all2_stays hD (fun P hP => s P (.tail _ hP)) t)
theorem stays_is (v : V) : Stays (is v) := fun _ _ _ _ _ h _ => h
theorem stays_tupV (ys : List V) : Stays (tupV ys) := fun v H D l1 l2 ⟨a, h1, h2⟩ hD => ⟨a, h1, by
  rw [upd_ne (ne_of h2 hD (fun z => nomatch z))]
  exact h2⟩
/-- [e for x in xs if t] -/
theorem comp (keep : V → Bool) (φ : V → PR) (hw : Walks wi σ H xs) (hz : xs.length ≤ 1000) (wp : ∀ x, wipe ((wipe σ vs).set i (some x)) vs = wipe σ vs)
    (ht : ∀ x ∈ xs, ∀ H1, Ex H H1 → ∀ Q : Bool → Hp → Prop, Q (keep x) H1 → tt ((wipe σ vs).set i (some x)) H1 Q) (he : ∀ x ∈ xs, keep x = true → Gives te ((wipe σ vs).set i (some x)) H (φ x)) (st : ∀ x ∈ xs, Stays (φ x)) :
    Gives (tLc wi (gName i) tt te vs) σ H (lst H ((xs.filter keep).map φ)) := fun H1 e1 Q q => by
  refine hw H1 e1 _ fun J H2 e2 ⟨G, w, g⟩ D hD => ?_
  have mem : ∀ (j : Nat) (P : PR), P ∈ ((xs.take j).filter keep).map φ → Stays P := fun j P hP => by
    obtain ⟨x, hx, rfl⟩ := List.mem_map.mp hP
    exact st x (List.mem_of_mem_take (List.mem_filter.mp hx).1)
  have len : ∀ j, (((xs.take j).filter keep).map φ).length ≤ 1000 := fun j => by
    rw [List.length_map]
    exact Nat.le_trans (List.length_filter_le _ _) (by rw [List.length_take]; omega)
  refine lc_it w (fun j H' => ∃ acc, H' D = some (.lst acc) ∧ Ex H2 H' ∧ All2 H' (((xs.take j).filter keep).map φ) acc) ⟨[], upd_same, Ex.new hD, .nil⟩ (fun j H' _ ⟨_, _, e3, _⟩ => g _ e3) (fun j x H' H'' hj ⟨acc, a1, a2, a3⟩ y => ?_) (fun H' ⟨acc, a1, a2, a3⟩ => ?_)
  · obtain ⟨rfl, hx⟩ := y
    have mx := List.mem_of_getElem? hx
    have eH := (e1.trans e2).trans a2
    have tk : xs.take (j + 1) = xs.take j ++ [x] := by
      rw [List.take_add_one, hx]
      rfl
    refine ⟨wp x, ht x mx _ eH _ ?_⟩
    cases kx : keep x with
    | false =>
      refine ⟨acc, a1, a2, ?_⟩
      rw [tk, List.filter_append, List.filter_cons, kx]
      simpa using a3
    | true =>
      refine he x mx kx _ eH _ fun v H4 e4 hv => ⟨acc, e4 _ _ a1, ?_, acc ++ [v], upd_same, fun b o hb => ?_, ?_⟩
      · have := a3.length
        have := len j
        rw [sizeLine_eq]
        omega
      · rw [upd_ne (ne_of_none hb hD)]
        exact e4 _ _ (a2 _ _ hb)
      · rw [tk, List.filter_append, List.filter_cons, kx, List.map_append]
        refine all2_stays (e4 _ _ a1) (fun P hP => ?_) (all2_snoc (a3.ex e4) hv)
        rcases List.mem_append.mp hP with hP | hP
        · exact mem j P hP
        · rw [List.mem_singleton.mp hP]
          exact st x mx
  · rw [List.take_length] at a3
    exact q _ _ (e2.trans a2) ⟨D, acc, rfl, a1, (e1.trans e2).back hD, a3⟩
theorem all2_is : ∀ {H : Hp} {ws vs : List V}, All2 H (ws.map is) vs → vs = ws
  | _, [], _, .nil => rfl
  | _, w :: ws, _, .cons a t => by rw [show _ = w from a, all2_is t]
/-- .. of values that are told -/
theorem comp_is (keep : V → Bool) (f : V → V) (hw : Walks wi σ H xs) (hz : xs.length ≤ 1000) (wp : ∀ x, wipe ((wipe σ vs).set i (some x)) vs = wipe σ vs)
    (ht : ∀ x ∈ xs, ∀ H1, Ex H H1 → ∀ Q : Bool → Hp → Prop, Q (keep x) H1 → tt ((wipe σ vs).set i (some x)) H1 Q) (he : ∀ x ∈ xs, keep x = true → Gives te ((wipe σ vs).set i (some x)) H (is (f x))) :
    Gives (tLc wi (gName i) tt te vs) σ H (lstV ((xs.filter keep).map f)) := fun H1 e1 Q q =>
  comp keep (fun x => is (f x)) hw hz wp ht he (fun _ _ => stays_is _) H1 e1 Q fun v H2 e2 ⟨a, ws, ev, ha, _, hs⟩ => q v H2 e2 ⟨a, ev, by
    have h2 : All2 H2 ((List.map f (xs.filter keep)).map is) ws := by
      rw [List.map_map]
      exact hs
    rw [← all2_is h2]
    exact ha⟩
/-- [e for k in d], d locked meanwhile -/
theorem comp_keys {m : Nat} {d : Addr} {kvs : List (Key × V)} (f : Key → V) (hd : σ[m]? = some (some (.ref d))) (at_ : H d = some (.dK kvs)) (hz : kvs.length ≤ 1000) (wp : ∀ x, wipe ((wipe σ vs).set i (some x)) vs = wipe σ vs)
    (he : ∀ x ∈ kvs, ∀ H1 (Q : VK), Q (f x.1) H1 → te ((wipe σ vs).set i (some (kV x.1))) H1 Q) :
    Gives (tLockE (tLc (iKeys (tVar m)) (gName i) tYes te vs)) σ H (lstV (kvs.map fun x => f x.1)) := fun H1 e1 Q q => by
  have h1 := e1 _ _ at_
  refine ⟨d, _, h1, True.intro, fun od => ⟨_, hd, d, od, rfl, .inl ⟨kvs, upd_same, fun D hD => ?_⟩⟩⟩
  have nd : d ≠ D := fun z => by
    rw [← z, upd_same] at hD
    cases hD
  have nD : H1 D = none := by rw [upd_ne nd.symm] at hD; exact hD
  refine lc_it walk_keys (fun j H' => H' = upd (upd H1 d (.frz od (.dK kvs))) D (.lst ((kvs.take j).map fun x => f x.1))) (by rw [List.take_zero]; rfl) (fun j H' _ e => by rw [e, upd_ne nd, upd_same]) (fun j x H' H'' hj e y => ?_) (fun H' e => ?_)
  · obtain ⟨rfl, k, v, hk, rfl⟩ := y
    refine ⟨wp _, he (k, v) (List.mem_of_getElem? hk) _ _ ⟨_, by rw [e]; exact upd_same, ?_, ?_⟩⟩
    · rw [List.length_map, List.length_take, sizeLine_eq]
      omega
    · rw [e, List.take_add_one, hk, List.map_append]
      funext b
      by_cases hb : b = D
      · rw [hb, upd_same, upd_same]
        rfl
      · rw [upd_ne hb, upd_ne hb, upd_ne hb]
  · refine ⟨by rw [e, upd_ne nd, upd_same], q _ _ (fun b o hb => ?_) ⟨D, rfl, ?_⟩⟩
    · rw [e]
      by_cases h : b = d
      · rw [h, upd_same, ← h1, ← h]
        exact hb
      · rw [upd_ne h, upd_ne (ne_of_none hb nD), upd_ne h]
        exact hb
    · rw [upd_ne nd.symm, e, upd_same, List.take_length]
end
end Cm

set_option Elab.async false
set_option linter.all false
set_option maxRecDepth 100000
set_option maxHeartbeats 1000000
/-! {k: v for .. in .. for .. in ..}, two clauses, the keys tuples. -/
namespace Dc2
open PySem PySem.Spec PyProof.Rows L2
section
variable {prog : Program} {w : World} {A : Around} {R : Result → Shared → Prop} {s : Shared} {kx vx t0 i0 t1 i1 : Expr} {f0 f1 : List Expr} {sc : Scope} {pos : Pos} {it : Value} {D : Addr} {env : Env}
abbrev Ex2 (kx vx t0 i0 t1 i1 : Expr) (f0 f1 : List Expr) (sc : Scope) (pos : Pos) : Expr := .DictComp kx vx [⟨t0, i0, f0, 0⟩, ⟨t1, i1, f1, 0⟩] sc pos
abbrev tests (prog : Program) (w : World) (A : Around) (env : Env) (fs : List Expr) (Q : Bool → Shared → Prop) (E : Value → Shared → Prop) (s : Shared) : Prop :=
  wpAny (model prog w) A (forIn fs true fun c r => if r = true then do let ok ← isTrue c env (eval c env); pure (ForInStep.yield ok) else pure (ForInStep.yield r)) Q E s
theorem turn_out (kx vx t0 i0 t1 i1 : Expr) (f0 f1 : List Expr) (sc : Scope) (pos : Pos) (it acc : Value) (env : Env) : compTurn (Ex2 kx vx t0 i0 t1 i1 f0 f1 sc pos) 0 it acc env = (do
    standAt i0.pos
    match ← pyNext it with
    | none => pure (.done .next)
    | some v =>
      letOwnedTupleGo t0 it v; assign t0 env v; let mut ok := true
      for c in f0 do
        if ok then ok ← isTrue c env (eval c env)
      if ok then
        let x ← eval i1 env; standAt i1.pos; let x ← foldedSetIterable i1 env x
        let _ ← runOwn (.compStart (Ex2 kx vx t0 i0 t1 i1 f0 f1 sc pos) 1 (← holding [x] (pyIter x)) acc env) env
      again (.compLoop (Ex2 kx vx t0 i0 t1 i1 f0 f1 sc pos) 0 it acc env)) := by rfl
theorem turn_in (kx vx t0 i0 t1 i1 : Expr) (f0 f1 : List Expr) (sc : Scope) (pos : Pos) (it : Value) (D : Addr) (env : Env) : compTurn (Ex2 kx vx t0 i0 t1 i1 f0 f1 sc pos) 1 it (.ref D) env = (do
    standAt i1.pos
    match ← pyNext it with
    | none => pure (.done .next)
    | some v =>
      letOwnedTupleGo t1 it v; assign t1 env v; let mut ok := true
      for c in f1 do
        if ok then ok ← isTrue c env (eval c env)
      if ok then
        (do
          let kv ← eval kx env; let vv ← holding [kv] (eval vx env)
          standAt { kx.pos with endLine := vx.pos.endLine, endCol := vx.pos.endCol }; holding [kv, vv] (dictSet D kv vv))
      again (.compLoop (Ex2 kx vx t0 i0 t1 i1 f0 f1 sc pos) 1 it (.ref D) env)) := by rfl
abbrev nt (prog : Program) (w : World) (A : Around) (env : Env) (R : Result → Shared → Prop) : Value → Shared → Prop := notedBy (model prog w) A env fun e s' => R (.error e) s'
theorem loop_out (hs : ∀ x, foldedSetIterable i1 env x = pure x) (I : Nat → Shared → Prop)
    (turn : ∀ n s, I n s → wpAny (model prog w) A (pyNext it) (fun r s1 => match r with
      | none => R (.ok .next) s1
      | some v => wpAny (model prog w) A (letOwnedTupleGo t0 it v) (fun _ s2 => wpAny (model prog w) A (assign t0 env v) (fun _ s3 => tests prog w A env f0 (fun ok s4 =>
            if ok = true then wpAny (model prog w) A (eval i1 env) (fun x s5 => wpAny (model prog w) A (pyIter x) (fun j s6 =>
              codeAny (model prog w) A (.compStart (Ex2 kx vx t0 i0 t1 i1 f0 f1 sc pos) 1 j (.ref D) env) (fun r s' => match r with
                | .ok _ => ∃ m, m < n ∧ I m s'
                | .error _ => False) s6) (nt prog w A env R) s5) (nt prog w A env R) s4
            else ∃ m, m < n ∧ I m s4) (nt prog w A env R) s3) (nt prog w A env R) s2) (nt prog w A env R) s1) (nt prog w A env R) s) (n : Nat) (h : I n s) :
    codeAny (model prog w) A (.compLoop (Ex2 kx vx t0 i0 t1 i1 f0 f1 sc pos) 0 it (.ref D) env) R s := by
  refine codeAny_loop rfl I (fun n s hI => ?_) n h
  show wpAny _ A ((compTurn (Ex2 kx vx t0 i0 t1 i1 f0 f1 sc pos) 0 it (.ref D) env).onRaise fun x => do noteFrame x env; theTreesLotGoes x) _ _ s
  refine wpAny_noted ?_
  rw [turn_out]
  refine wpAny_bind (wpAny_standAt (wpAny_bind (wpAny_mono (turn n s hI) (fun r s1 h1 => ?_) fun _ _ z => z)))
  cases r with
  | none => exact wpAny_pure h1
  | some v =>
    refine wpAny_bind (wpAny_mono h1 (fun _ s2 h2 => wpAny_bind (wpAny_mono h2 (fun _ s3 h3 => wpAny_bind (wpAny_mono h3 (fun ok s4 h4 => ?_) fun _ _ z => z)) fun _ _ z => z)) fun _ _ z => z)
    cases ok with
    | false => exact wpAny_pure ⟨rfl, h4⟩
    | true =>
      refine wpAny_bind (wpAny_mono h4 (fun x s5 h5 => wpAny_bind (wpAny_standAt (wpAny_bind (wpAny_of_eq (hs x) (wpAny_bind (wpAny_holding (wpAny_mono h5 (fun j s6 h6 => wpAny_bind (wpAny_runOwn ?_)) fun _ _ z => z))))))) fun _ _ z => z)
      rw [Around.mark_none]
      refine codeAny_mono h6 fun r s' hr => ?_
      cases r with
      | ok f => first | exact wpAny_pure ⟨rfl, hr⟩ | exact wpAny_bind (wpAny_pure (wpAny_pure ⟨rfl, hr⟩))
      | error e => exact hr.elim
theorem loop_in (I : Nat → Shared → Prop)
    (turn : ∀ n s, I n s → wpAny (model prog w) A (pyNext it) (fun r s1 => match r with
      | none => R (.ok .next) s1
      | some v => wpAny (model prog w) A (letOwnedTupleGo t1 it v) (fun _ s2 => wpAny (model prog w) A (assign t1 env v) (fun _ s3 => tests prog w A env f1 (fun ok s4 =>
            if ok = true then wpAny (model prog w) A (eval kx env) (fun kv s5 => wpAny (model prog w) A (eval vx env) (fun vv s6 => wpAny (model prog w) A (dictSet D kv vv) (fun _ s7 => ∃ m, m < n ∧ I m s7) (nt prog w A env R) s6) (nt prog w A env R) s5) (nt prog w A env R) s4
            else ∃ m, m < n ∧ I m s4) (nt prog w A env R) s3) (nt prog w A env R) s2) (nt prog w A env R) s1) (nt prog w A env R) s) (n : Nat) (h : I n s) :
    codeAny (model prog w) A (.compLoop (Ex2 kx vx t0 i0 t1 i1 f0 f1 sc pos) 1 it (.ref D) env) R s := by
  refine codeAny_loop rfl I (fun n s hI => ?_) n h
  show wpAny _ A ((compTurn (Ex2 kx vx t0 i0 t1 i1 f0 f1 sc pos) 1 it (.ref D) env).onRaise fun x => do noteFrame x env; theTreesLotGoes x) _ _ s
  refine wpAny_noted ?_
  rw [turn_in]
  refine wpAny_bind (wpAny_standAt (wpAny_bind (wpAny_mono (turn n s hI) (fun r s1 h1 => ?_) fun _ _ z => z)))
  cases r with
  | none => exact wpAny_pure h1
  | some v =>
    refine wpAny_bind (wpAny_mono h1 (fun _ s2 h2 => wpAny_bind (wpAny_mono h2 (fun _ s3 h3 => wpAny_bind (wpAny_mono h3 (fun ok s4 h4 => ?_) fun _ _ z => z)) fun _ _ z => z)) fun _ _ z => z)
    cases ok with
    | false => exact wpAny_pure ⟨rfl, h4⟩
    | true =>
      exact wpAny_bind (wpAny_bind (wpAny_mono h4 (fun kv s5 h5 => wpAny_bind (wpAny_holding (wpAny_mono h5 (fun vv s6 h6 => wpAny_bind (wpAny_standAt (wpAny_holding (wpAny_mono h6 (fun _ s7 h7 => wpAny_pure ⟨rfl, h7⟩) fun _ _ z => z)))) fun _ _ z => z))) fun _ _ z => z))
theorem start_in (h0 : codeAny (model prog w) A (.compLoop (Ex2 kx vx t0 i0 t1 i1 f0 f1 sc pos) 1 it (.ref D) env) R s)
    (h : wpAny (model prog w) A (pyIter it) (fun j s' => codeAny (model prog w) A (.compLoop (Ex2 kx vx t0 i0 t1 i1 f0 f1 sc pos) 1 j (.ref D) env) R s') (nt prog w A env R) s) :
    codeAny (model prog w) A (.compStart (Ex2 kx vx t0 i0 t1 i1 f0 f1 sc pos) 1 it (.ref D) env) R s := by
  refine codeAny_of_tree ?_
  show wpAny _ _ ((compStart (Ex2 kx vx t0 i0 t1 i1 f0 f1 sc pos) 1 it (.ref D) env).onRaise fun x => do noteFrame x env; standAt theWindowsPlace) _ _ s
  refine wpAny_notedAt ?_
  unfold compStart
  show wpAny _ _ (ask >>= _) _ _ s
  refine wpAny_bind (wpAny_askSetting (wpAny_ite ?_))
  split
  · first | exact wpAny_bind (wpAny_pure (wpAny_pure (And.intro rfl h0))) | exact wpAny_pure (And.intro rfl h0)
  · first
      | exact wpAny_bind (wpAny_rule (wpAny_bind (wpAny_standAt (wpAny_bind (wpAny_mono h (fun j s' y => wpAny_pure (And.intro rfl y)) fun _ _ x => x)))))
      | (refine wpAny_bind (wpAny_rule ?_); show wpAny _ _ (standAt i1.pos >>= _) _ _ s; exact wpAny_bind (wpAny_standAt (wpAny_bind (wpAny_mono h (fun j s' y => wpAny_pure (And.intro rfl y)) fun _ _ x => x))))
end
/-- d[k] = v by a comprehension, k a tuple -/
theorem put_tup {X : Cx} {pins : List (Addr × Obj)} {σ : L2.St} {H : Hp} {s : Shared} {E : Value → Shared → Prop} {D b : Addr} {kvs : List (List Key × V)} {k : List Key} {v : V} {u r : Value} {Q : Unit → Shared → Prop} (hu : X.A.units + 1 < cLine) (I : Inv X pins σ H s) (hD : H D = some (.dT kvs)) (hz : kvs.length < sizeLine)
    (eb : H b = some (.tup (k.map kV))) (ry : RelV (.ref b) u) (rv : RelV v r) (h : ∀ s', Inv X pins σ (upd H D (.dT (putK kvs k v))) s' → Q () s') : wpAny (model X.prog X.w) X.A (dictSet D u r) Q E s := by
  cases ry
  obtain ⟨z, hd, xs, rel, dd⟩ := dt_of I.hok hD
  have l1 : xs.length ≤ sizeLine := by rw [← Paired.length rel]; exact z
  have l2 : (putK kvs k v).length ≤ sizeLine := by
    have := length_putK kvs k v
    omega
  refine wpAny_dictSet_heap (hsz := l1) ?_ (key_of I.hok eb) dd fun h' dd' hs => h _ ?_
  · show X.A.units < cLine
    omega
  · obtain ⟨q, es, ep, hq, h2, h3, h4, _, h5⟩ := dd'
    refine d_write I (by rw [hD]; exact True.intro) hs ⟨q, hq⟩ ⟨l2, hd, _, (rel.put k eb rv).keeps fun c ys ec => ?_, q, es, ep, hq, h2, h3, h4, h5⟩
    rw [upd_ne (ne_of ec hD (fun z => nomatch z))]
    exact ec
/-- {k: v for tg in iter if .. for tg1 in iter1 if ..}, the keys tuples: D the new dict -/
def tDc2 (wi : TI) (g : TG) (tt : TT) (wi1 : TI) (g1 : TG) (tt1 : TT) (tk tv : TE) (vs vs1 : List Nat) : TE := fun σ H Q => wi σ H fun J H1 => ∀ D, H1 D = none → ∃ W : Nat → Nat → Hp → Prop, (∃ m, W 0 m (upd H1 D (.dT []))) ∧ ∀ i m H, W i m H →
  (J.stop i H ∧ Q (.ref D) H) ∨ (J.go i H ∧ ∃ Nx : Hp → Prop, (∀ H', Nx H' → ∃ m', m' < m ∧ W (i + 1) m' H') ∧ ∀ x H', J.yld i H x H' → g x (wipe σ vs) H' fun σ2 H2 => wipe σ2 vs = wipe σ vs ∧ tt σ2 H2 fun b H3 =>
    if b = true then wi1 σ2 H3 fun J1 H4 => ∃ W1 : Nat → Nat → Hp → Prop, (∃ m, W1 0 m H4) ∧ ∀ j k H, W1 j k H →
      (J1.stop j H ∧ Nx H) ∨ (J1.go j H ∧ ∃ Nx1 : Hp → Prop, (∀ H', Nx1 H' → ∃ k', k' < k ∧ W1 (j + 1) k' H') ∧ ∀ x H', J1.yld j H x H' → g1 x (wipe σ2 vs1) H' fun σ3 H5 => wipe σ3 vs1 = wipe σ2 vs1 ∧ tt1 σ3 H5 fun b H6 =>
        if b = true then tk σ3 H6 fun y H7 => tv σ3 H7 fun z H8 => ∃ (kvs : List (List Key × V)) (ks : List Key) (q : Addr), y = .ref q ∧ H8 q = some (.tup (ks.map kV)) ∧ H8 D = some (.dT kvs) ∧ kvs.length < sizeLine ∧ Nx1 (upd H8 D (.dT (putK kvs ks z))) else Nx1 H6)
    else Nx H3)
/-- what holds in each block of the scope sc -/
abbrev InBlk (X : Cx) (sc : Scope) (T : Cx → Prop) : Prop := ∀ (s : Shared) (H : Hp) (C : Addr) (cl : List (Str × Addr)) (fp : List Addr), T (X.blk s H sc (compEnvC sc cl C X.env) fp)
section
variable {X : Cx}
theorem core {pins : List (Addr × Obj)} {s : Shared} {σ : L2.St} {H : Hp} {Q : VK} {kx vx tg iter tg1 iter1 : Expr} {f0 f1 : List Expr} {sc : Scope} {own : List (Str × Nat)} {vs1 : List Nat} {pos pos' : Pos} {wi wi1 : TI} {g g1 : TG} {tt tt1 : TT} {tk tv : TE} {use : Option (Value → Sem Unit)} {Qf : Value → Shared → Prop}
    (hu : X.A.units + 1 < cLine) (hc : X.calm = true) (hN : X.N.Nodup) (I : Inv X pins σ H s) (hi : PI X tg iter wi) (ok : BlkOk X.N X.env.scope sc own) (hv : ∀ i ∈ vs1, i ∈ own.map (·.2))
    (hg : InBlk X sc fun B => PG B tg g) (ht : InBlk X sc fun B => PTs B f0 tt) (hk : InBlk X sc fun B => PE B kx tk) (he : InBlk X sc fun B => PE B vx tv) (hs : ∀ x, foldedSetIterable iter X.env x = pure x)
    (hi1 : InBlk X sc fun B => PI B tg1 iter1 wi1) (hg1 : InBlk X sc fun B => PG B tg1 g1) (ht1 : InBlk X sc fun B => PTs B f1 tt1) (hs1 : ∀ env x, foldedSetIterable iter1 env x = pure x)
    (h : tDc2 wi g tt wi1 g1 tt1 tk tv (own.map (·.2)) vs1 σ H Q)
    (hR : ∀ D C s' m H', Inv X pins σ H' s' → Q (.ref D) H' → s'.heap.Ns C m → FpOk X pins H' C → compPost (model X.prog X.w) X.A X.xe use Qf (.ref D) C (.ok .next) s') :
    wpAny (model X.prog X.w) X.A (comprehension (Ex2 kx vx tg iter tg1 iter1 f0 f1 sc pos) sc X.env pos' newDict false (eval iter X.env) use) Qf X.xe s := by
  have caught : ∀ y ∈ sc.names, y.2 = .free → ∃ c, X.env.cells.lookup y.1 = some c := fun y hy e => (ok.free y hy e).elim (fun k => I.ok.has _ (.inl k)) fun k => I.ok.has _ (.inr k)
  refine wpAny_comprehension_free (use := use) rfl hs (closure_ok caught) ok.kind (fun y hy e => by rw [ok.uniq y hy, e]) (thn (hi.run pins s σ H _ I h) fun xv s1 hx => thn hx fun itv s2 h2 => ?_)
  obtain ⟨it, fp, tn, J, H2, rfl, I2, T, st2, f2, q⟩ := h2
  refine wpAny_newObj_type (newEnv_comp ?_)
  generalize hD : s2.heap.objs.size = D
  obtain ⟨W, ⟨m0, w0⟩, turn⟩ := q D (I2.hok.fresh (Nat.le_of_eq hD))
  generalize hs3 : ({ s2 with heap := s2.heap.push { cls := .type "dict", data := .dict #[] } } : Shared) = s3
  have h3 : s3.heap = s2.heap.push { cls := .type "dict", data := .dict #[] } := by rw [← hs3]
  have I3 : Inv X pins σ (upd H2 D (.dT [])) s3 := by
    rw [← hs3]
    refine I2.laid (t' := s2.toks) (fun b o e => Heap.get?_push_of_some _ e) (Nat.le_of_eq hD) ?_
    rw [← hD]
    exact dt_empty s2.heap I2.big
  have low : ∀ b ∈ fp, b < s2.heap.objs.size := fun b hb => let ⟨o, e, _⟩ := T.obj _ _ st2 b hb; Heap.lt_size e
  have f3 : ∀ b ∈ fp, FpOk X pins (upd H2 D (.dT [])) b ∧ b < s3.heap.objs.size := fun b hb =>
    ⟨⟨by rw [upd_ne (by rw [← hD]; exact Nat.ne_of_lt (low b hb))]; exact (f2 b hb).1, (f2 b hb).2⟩, by rw [h3, Heap.size_push]; exact Nat.lt_succ_of_lt (low b hb)⟩
  have st3 : tn 0 s3.heap := T.keep _ _ _ st2 fun b _ o e => by rw [h3]; exact Heap.get?_push_of_some _ e
  have I4 := block_start I3 ok hN f3
  generalize hcl : cellsFrom (s3.heap.objs.size + 1) sc.names (cloFrom X.env.cells sc.names []) = cl at I4
  have pg := hg s3 (upd H2 D (.dT [])) s3.heap.objs.size cl fp
  have pt := ht s3 (upd H2 D (.dT [])) s3.heap.objs.size cl fp
  have pk := hk s3 (upd H2 D (.dT [])) s3.heap.objs.size cl fp
  have pe := he s3 (upd H2 D (.dT [])) s3.heap.objs.size cl fp
  have pi1 := hi1 s3 (upd H2 D (.dT [])) s3.heap.objs.size cl fp
  have pg1 := hg1 s3 (upd H2 D (.dT [])) s3.heap.objs.size cl fp
  have pt1 := ht1 s3 (upd H2 D (.dT [])) s3.heap.objs.size cl fp
  show codeAny _ _ (.compStart (Ex2 kx vx tg iter tg1 iter1 f0 f1 sc pos) 0 (.ref it) (.ref D) (compEnvC sc cl s3.heap.objs.size X.env)) (compPost (model X.prog X.w) X.A X.xe use Qf (.ref D) s3.heap.objs.size) { s3 with heap := pushCells (s3.heap.push { cls := .type "dict", data := .dict #[] }) sc.names }
  have nfp : ∀ b ∈ fp, (upd H2 D (.dT [])) b = none := fun b hb => (f3 b hb).1.1
  generalize hce : compEnvC sc cl s3.heap.objs.size X.env = ce at I4 pg pt pk pe pi1 pg1 pt1 ⊢
  have cL : ce.locals = s3.heap.objs.size := by
    subst hce
    rfl
  generalize hH3 : upd H2 D (.dT []) = H3 at I3 I4 pg pt pk pe pi1 pg1 pt1 w0 nfp f3
  generalize hs4 : ({ s3 with heap := pushCells (s3.heap.push { cls := .type "dict", data := .dict #[] }) sc.names } : Shared) = s4 at I4 ⊢
  have st4 : tn 0 s4.heap := T.keep _ _ _ st3 fun b _ o e => by rw [← hs4]; exact pushCells_keeps _ _ _ _ (Heap.get?_push_of_some _ e)
  generalize hB : X.blk s3 H3 sc ce fp = B at I4 pg pt pk pe pi1 pg1 pt1
  have stat : ∀ {pn : List (Addr × Obj)} {σ' : L2.St} {H' : Hp} {s' : Shared}, Inv B [] σ' H' s' → (∀ b ∈ fp, H' b = none) → ∀ b ∈ fp, FpOk B [] H' b := fun {pn σ' H' s'} I' hn b hb => by
    subst hB
    exact ⟨hn b hb, (I'.ok.exf b hb).1, I'.ok.exfs b hb, .inl hb, fun x c e => (I'.ok.exf b hb).2 x c e, fun p hp => absurd (show p ∈ ([] : List (Addr × Obj)) ++ [] from hp) (by simp)⟩
  have eB : B.prog = X.prog ∧ B.w = X.w ∧ B.K = X.K ∧ B.calm = true := by
    subst hB
    exact ⟨rfl, rfl, rfl, hc⟩
  have loop : codeAny (model X.prog X.w) X.A (.compLoop (Ex2 kx vx tg iter tg1 iter1 f0 f1 sc pos) 0 (.ref it) (.ref D) ce) (compPost (model X.prog X.w) X.A X.xe use Qf (.ref D) s3.heap.objs.size) s4 := by
    subst hB
    refine loop_out (hs1 ce) (fun n s' => ∃ i H', Inv (X.blk s3 H3 sc ce fp) [] (wipe σ (own.map (·.2))) H' s' ∧ tn i s'.heap ∧ (∀ b ∈ fp, H' b = none) ∧ W i n H') ?_ m0 ⟨0, H3, I4, st4, nfp, w0⟩
    rintro n s5 ⟨i, H5, I5, st5, n5, w5⟩
    rcases turn i n H5 w5 with ⟨stop, qq⟩ | ⟨go, Nx, hNx, step⟩
    · refine thnF (T.done (X.blk s3 H3 sc ce fp) rfl rfl rfl hc i [] s5 _ H5 (fun _ _ => False) I5 (stat (pn := []) I5 n5) st5 stop) fun r s6 ⟨hr, I6⟩ => ?_
      subst hr
      obtain ⟨m, hn, _⟩ := I6.loc
      have hn : s6.heap.Ns ce.locals m := hn
      have nC : H5 ce.locals = none := I6.free
      rw [cL] at hn nC
      exact hR D s3.heap.objs.size s6 m H5 (I3.call' (ch := fp) I6.os I6.base I6.hok I6.bare fun b hb => ⟨(f3 b hb).1.2.2.2.1, (f3 b hb).1.2.1, (f3 b hb).1.2.2.2.2.1, (f3 b hb).1.2.2.2.2.2⟩) qq hn (I3.fpOk (Nat.le_refl _) nC)
    · refine thnF (T.item (X.blk s3 H3 sc ce fp) rfl rfl rfl hc i [] s5 _ H5 (fun _ _ => False) I5 (stat (pn := []) I5 n5) st5 go) fun r s6 ⟨u, hr, h6⟩ => ?_
      subst hr
      refine thnF h6 fun _ s7 ⟨x, H7, I7, r7, y7, st7, n7⟩ => ?_
      refine thnF (pg.run _ s7 _ H7 x u _ (I7.pinned (stat (pn := []) I7 n7) (T.obj _ _ st7)) r7 (step x H7 y7)) fun _ s8 ⟨σ8, H8, I8, hw8, q8⟩ => thnF (pt.run _ s8 σ8 H8 _ I8 q8) fun b s9 ⟨H9, I9, q9⟩ => ?_
      have fin : ∀ {σ9 : L2.St} {s' : Shared} {H' : Hp}, Inv (X.blk s3 H3 sc ce fp) ([] ++ pinsAt fp s7.heap) σ9 H' s' → (wipe σ (own.map (·.2))).length = σ9.length → (∀ (j : Nat) v, (wipe σ (own.map (·.2)))[j]? = some (some v) → σ9[j]? = some (some v)) → Nx H' →
          ∃ m, m < n ∧ ∃ i H', Inv (X.blk s3 H3 sc ce fp) [] (wipe σ (own.map (·.2))) H' s' ∧ tn i s'.heap ∧ (∀ b ∈ fp, H' b = none) ∧ W i m H' := fun {σ9 s' H'} I' hl hk nx => by
        obtain ⟨m', hm, w'⟩ := hNx H' nx
        have pin' : ∀ b ∈ fp, ∀ o, s7.heap.get? b = some o → s'.heap.get? b = some o ∧ H' b = none := fun b hb o e => have z := I'.pin (b, o) (List.mem_append_right _ (List.mem_append_right _ (mem_pinsAt hb e))); ⟨z.1, z.2.1⟩
        exact ⟨m', hm, i + 1, H', (I'.unpinned (pins := [])).weak hl hk, T.keep _ _ _ st7 fun b hb o e => (pin' b hb o e).1, fun b hb => let ⟨o, e, _⟩ := T.obj _ _ st7 b hb; (pin' b hb o e).2, w'⟩
      have l8 : (wipe σ (own.map (·.2))).length = σ8.length := by rw [← hw8, wipe_length]
      have k8 : ∀ (j : Nat) v, (wipe σ (own.map (·.2)))[j]? = some (some v) → σ8[j]? = some (some v) := fun j v e => (wipe_some (by rw [hw8]; exact e)).1
      have k9 : ∀ (j : Nat) v, (wipe σ (own.map (·.2)))[j]? = some (some v) → (wipe σ8 vs1)[j]? = some (some v) := fun j v e => by
        rw [← hw8] at e
        rw [wipe_out fun z => (wipe_some e).2 (hv j z)]
        exact (wipe_some e).1
      cases b with
      | false => exact fin I9 l8 k8 (by simpa only [Bool.false_eq_true, if_false] using q9)
      | true =>
        rw [if_pos rfl] at q9
        show wpAny _ _ _ _ _ _
        refine thnF (pi1.run _ s9 σ8 H9 _ I9 q9) fun xv s10 hx => thnF hx fun itv s11 h11 => ?_
        obtain ⟨it1, fp1, tn1, J1, H11, rfl, I11, T1, st11, f11, W1, ⟨m1, w1⟩, turn1⟩ := h11
        have stat1 : ∀ {H' : Hp}, (∀ b ∈ fp1, H' b = none) → ∀ b ∈ fp1, FpOk (X.blk s3 H3 sc ce fp) ([] ++ pinsAt fp s7.heap) H' b := fun hn b hb => ⟨hn b hb, (f11 b hb).2⟩
        have loop1 : codeAny (model X.prog X.w) X.A (.compLoop (Ex2 kx vx tg iter tg1 iter1 f0 f1 sc pos) 1 (.ref it1) (.ref D) ce) (fun r s' => match r with
            | .ok _ => ∃ m, m < n ∧ ∃ i H', Inv (X.blk s3 H3 sc ce fp) [] (wipe σ (own.map (·.2))) H' s' ∧ tn i s'.heap ∧ (∀ b ∈ fp, H' b = none) ∧ W i m H'
            | .error _ => False) s11 := by
          refine loop_in (fun k s' => ∃ j H', Inv (X.blk s3 H3 sc ce fp) ([] ++ pinsAt fp s7.heap) (wipe σ8 vs1) H' s' ∧ tn1 j s'.heap ∧ (∀ b ∈ fp1, H' b = none) ∧ W1 j k H') ?_ m1 ⟨0, H11, I11.weak (wipe_length _ _) (fun j v e => (wipe_some e).1), st11, fun b hb => (f11 b hb).1, w1⟩
          rintro k s12 ⟨j, H12, I12, st12, n12, w12⟩
          rcases turn1 j k H12 w12 with ⟨stop1, nx1⟩ | ⟨go1, Nx1, hNx1, step1⟩
          · refine thnF (T1.done (X.blk s3 H3 sc ce fp) rfl rfl rfl hc j _ s12 (wipe σ8 vs1) H12 (fun _ _ => False) I12 (stat1 n12) st12 stop1) fun r s13 ⟨hr, I13⟩ => ?_
            subst hr
            exact fin I13 (l8.trans (wipe_length σ8 vs1).symm) k9 nx1
          · refine thnF (T1.item (X.blk s3 H3 sc ce fp) rfl rfl rfl hc j _ s12 (wipe σ8 vs1) H12 (fun _ _ => False) I12 (stat1 n12) st12 go1) fun r s13 ⟨u1, hr, h13⟩ => ?_
            subst hr
            refine thnF h13 fun _ s14 ⟨x1, H14, I14, r14, y14, st14, n14⟩ => ?_
            refine thnF (pg1.run _ s14 (wipe σ8 vs1) H14 x1 u1 _ (I14.pinned (stat1 n14) (T1.obj _ _ st14)) r14 (step1 x1 H14 y14)) fun _ s15 ⟨σ15, H15, I15, hw15, q15⟩ => thnF (pt1.run _ s15 σ15 H15 _ I15 q15) fun b1 s16 ⟨H16, I16, q16⟩ => ?_
            have fin1 : ∀ {s' : Shared} {H' : Hp}, Inv (X.blk s3 H3 sc ce fp) (([] ++ pinsAt fp s7.heap) ++ pinsAt fp1 s14.heap) σ15 H' s' → Nx1 H' → ∃ m, m < k ∧ ∃ j H', Inv (X.blk s3 H3 sc ce fp) ([] ++ pinsAt fp s7.heap) (wipe σ8 vs1) H' s' ∧ tn1 j s'.heap ∧ (∀ b ∈ fp1, H' b = none) ∧ W1 j m H' := fun {s' H'} I' nx => by
              obtain ⟨m', hm, w'⟩ := hNx1 H' nx
              have pin' : ∀ b ∈ fp1, ∀ o, s14.heap.get? b = some o → s'.heap.get? b = some o ∧ H' b = none := fun b hb o e => have z := I'.pin (b, o) (List.mem_append_right _ (List.mem_append_right _ (mem_pinsAt hb e))); ⟨z.1, z.2.1⟩
              exact ⟨m', hm, j + 1, H', I'.unpinned.weak (by rw [← hw15, wipe_length]) (fun j v e => (wipe_some (by rw [hw15]; exact e)).1), T1.keep _ _ _ st14 fun b hb o e => (pin' b hb o e).1, fun b hb => let ⟨o, e, _⟩ := T1.obj _ _ st14 b hb; (pin' b hb o e).2, w'⟩
            cases b1 with
            | false => exact fin1 I16 (by simpa only [Bool.false_eq_true, if_false] using q16)
            | true =>
              rw [if_pos rfl] at q16
              refine thnF (pk.run _ s16 σ15 H16 _ I16 q16) fun z s17 ⟨yk, H17, I17, r17, q17⟩ => thnF (pe.run _ s17 σ15 H17 _ I17 q17) fun z2 s18 ⟨yv, H18, I18, r18, kvs, ks, qk, ek, hqk, hD18, hz18, nx⟩ => ?_
              subst ek
              exact put_tup (X := X.blk s3 H3 sc ce fp) hu I18 hD18 hz18 hqk r17 r18 fun s19 I19 => fin1 I19 nx
        exact start_in loop1 (T1.self X.A 0 _ _ _ st11 loop1)
  exact codeAny_compStart_dict loop (T.self X.A 0 _ _ _ st4 loop)
theorem pe_dc2 {kx vx tg iter tg1 iter1 : Expr} {f0 f1 : List Expr} {sc : Scope} {own : List (Str × Nat)} {vs1 : List Nat} {pos : Pos} {wi wi1 : TI} {g g1 : TG} {tt tt1 : TT} {tk tv : TE}
    (hu : X.A.units + 1 < cLine) (hc : X.calm = true) (hN : X.N.Nodup) (hi : PI X tg iter wi) (ok : BlkOk X.N X.env.scope sc own) (hv : ∀ i ∈ vs1, i ∈ own.map (·.2))
    (hg : InBlk X sc fun B => PG B tg g) (ht : InBlk X sc fun B => PTs B f0 tt) (hi1 : InBlk X sc fun B => PI B tg1 iter1 wi1) (hg1 : InBlk X sc fun B => PG B tg1 g1) (ht1 : InBlk X sc fun B => PTs B f1 tt1)
    (hk : InBlk X sc fun B => PE B kx tk) (he : InBlk X sc fun B => PE B vx tv) (hs : ∀ x, foldedSetIterable iter X.env x = pure x := by intro _; rfl) (hs1 : ∀ env x, foldedSetIterable iter1 env x = pure x := by intro _ _; rfl) :
    PE X (Ex2 kx vx tg iter tg1 iter1 f0 f1 sc pos) (tDc2 wi g tt wi1 g1 tt1 tk tv (own.map (·.2)) vs1) := by
  refine ⟨fun pins s σ H Q I h => ?_⟩
  rw [arm_eval_DictComp]
  refine core hu hc hN I hi ok hv hg ht hk he hs hi1 hg1 ht1 hs1 h fun D C s' m H' I' q hn f => ⟨m, hn, fun h2 sb => ?_⟩
  obtain ⟨a0, a1, a2, a3, a4, a5⟩ := f
  exact ⟨.ref D, H', I'.turned (t' := s'.toks) (fun b o hb e => (sb.2 b hb).trans e) a0 a1 a3 a4 a5, rfl, q⟩
end
end Dc2

set_option Elab.async false
set_option linter.all false
set_option maxRecDepth 100000
set_option maxHeartbeats 1000000
/-! Several dicts locked at once; walks over locked dicts; comprehensions of two clauses that only add objects. -/
namespace Cm
open PySem PySem.Spec PyProof.Rows L2 EvP
/-- t while the things of ds are locked -/
def lockW : List (Addr × HO) → TE → TE
  | [], t => t
  | p :: r, t => fun σ H Q => H p.1 = some p.2 ∧ Mut (some p.2) ∧ ∀ od, lockW r t σ (upd H p.1 (.frz od p.2)) fun v H' => H' p.1 = some (.frz od p.2) ∧ Q v (upd H' p.1 p.2)
def tLockL (t : TE) : TE := fun σ H Q => ∃ ds, lockW ds t σ H Q
theorem pe_lockW {X : Cx} {e : Expr} {t : TE} (h : PE X e t) : ∀ ds, PE X e (lockW ds t)
  | [] => h
  | p :: r => ⟨fun pins s σ H Q I hw => (pe_lock (pe_lockW h r)).run pins s σ H Q I ⟨p.1, p.2, hw.1, hw.2.1, hw.2.2⟩⟩
theorem pe_lockL {X : Cx} {e : Expr} {t : TE} (h : PE X e t) : PE X e (tLockL t) := ⟨fun pins s σ H Q I ⟨ds, hw⟩ => (pe_lockW h ds).run pins s σ H Q I hw⟩
/-- H with ds locked; H' with ds as they were -/
structure Froz (ds : List (Addr × HO)) (H Hf : Hp) : Prop where
  old : ∀ b, b ∉ ds.map (·.1) → Hf b = H b
  at_ : ∀ p ∈ ds, ∃ od, Hf p.1 = some (.frz od p.2)
structure Thaw (ds : List (Addr × HO)) (H' H2 : Hp) : Prop where
  old : ∀ b, b ∉ ds.map (·.1) → H2 b = H' b
  at_ : ∀ p ∈ ds, H2 p.1 = some p.2
theorem lock_all {t : TE} {σ : L2.St} (S : Hp → V → Hp → Prop) : ∀ (ds : List (Addr × HO)) (H : Hp) (Q : VK), (ds.map (·.1)).Nodup → (∀ p ∈ ds, H p.1 = some p.2 ∧ Mut (some p.2)) → (∀ Hf, Froz ds H Hf → ∀ R : VK, (∀ v H', S Hf v H' → R v H') → t σ Hf R) →
    (∀ Hf v H', Froz ds H Hf → S Hf v H' → (∀ p ∈ ds, H' p.1 = Hf p.1) ∧ ∀ H2, Thaw ds H' H2 → Q v H2) → lockW ds t σ H Q
  | [], H, Q, _, _, a, b => a H ⟨fun _ _ => rfl, fun p hp => nomatch hp⟩ Q fun v H' s => (b H v H' ⟨fun _ _ => rfl, fun p hp => nomatch hp⟩ s).2 H' ⟨fun _ _ => rfl, fun p hp => nomatch hp⟩
  | p :: r, H, Q, nd, at_, a, b => by
    rw [List.map_cons, List.nodup_cons] at nd
    refine ⟨(at_ p (.head _)).1, (at_ p (.head _)).2, fun od => lock_all S r _ _ nd.2 (fun q hq => ?_) (fun Hf fr R hR => ?_) (fun Hf v H' fr s => ?_)⟩
    · rw [upd_ne fun e => nd.1 (List.mem_map.mpr ⟨q, hq, e⟩)]
      exact at_ q (.tail _ hq)
    all_goals
      have fr' : Froz (p :: r) H Hf := ⟨fun c hc => by
        rw [List.map_cons, List.mem_cons, not_or] at hc
        rw [fr.old c hc.2, upd_ne hc.1], fun q hq => by
        rcases List.mem_cons.mp hq with rfl | hq
        · exact ⟨od, by rw [fr.old _ nd.1, upd_same]⟩
        · exact fr.at_ q hq⟩
    · exact a Hf fr' R hR
    · obtain ⟨b1, b2⟩ := b Hf v H' fr' s
      refine ⟨fun q hq => b1 q (.tail _ hq), fun H2 th => ?_⟩
      have e : Hf p.1 = some (.frz od p.2) := by rw [fr.old _ nd.1, upd_same]
      refine ⟨by rw [th.old _ nd.1, b1 p (.head _), e], b2 _ ⟨fun c hc => ?_, fun q hq => ?_⟩⟩
      · rw [List.map_cons, List.mem_cons, not_or] at hc
        rw [upd_ne hc.1, th.old c hc.2]
      · rcases List.mem_cons.mp hq with rfl | hq
        · exact upd_same
        · rw [upd_ne fun e => nd.1 (List.mem_map.mpr ⟨q, hq, e⟩)]
          exact th.at_ q hq
theorem Froz.ex {ds : List (Addr × HO)} {H Hf H' H2 : Hp} (at_ : ∀ p ∈ ds, H p.1 = some p.2) (f : Froz ds H Hf) (e : Ex Hf H') (t : Thaw ds H' H2) : Ex H H2 := fun b o h => by
  by_cases m : b ∈ ds.map (·.1)
  · obtain ⟨p, hp, rfl⟩ := List.mem_map.mp m
    rw [t.at_ p hp, ← at_ p hp]
    exact h
  · rw [t.old b m]
    exact e _ _ (by rw [f.old b m]; exact h)
theorem Thaw.new {ds : List (Addr × HO)} {H Hf H' H2 : Hp} (f : Froz ds H Hf) (e : Ex Hf H') (t : Thaw ds H' H2) {b : Addr} {o : HO} (h : H' b = some o) (nf : ∀ od u, o ≠ .frz od u) : H2 b = some o := by
  by_cases m : b ∈ ds.map (·.1)
  · obtain ⟨p, hp, rfl⟩ := List.mem_map.mp m
    obtain ⟨od, y⟩ := f.at_ p hp
    rw [e _ _ y] at h
    exact absurd (Option.some.inj h).symm (nf _ _)
  · rw [t.old b m]
    exact h
section
variable {K : PySem.W.Frag} {σ : L2.St} {H : Hp} {t te : TE} {P P0 : PR} {ds : List (Addr × HO)}
theorem g_lock (nd : (ds.map (·.1)).Nodup) (at_ : ∀ p ∈ ds, H p.1 = some p.2 ∧ Mut (some p.2)) (h : ∀ H1, Ex H H1 → ∀ Hf, Froz ds H1 Hf → Gives t σ Hf P0)
    (k : ∀ v H1 Hf H' H2, Ex H H1 → Froz ds H1 Hf → Ex Hf H' → Thaw ds H' H2 → P0.R v H' → P.R v H2) : Gives (tLockL t) σ H P := fun H1 e1 Q q => by
  have at1 : ∀ p ∈ ds, H1 p.1 = some p.2 ∧ Mut (some p.2) := fun p hp => ⟨e1 _ _ (at_ p hp).1, (at_ p hp).2⟩
  refine ⟨ds, lock_all (fun Hf v H' => Ex Hf H' ∧ P0.R v H') ds H1 Q nd at1 (fun Hf fr R hR => h H1 e1 Hf fr Hf (Ex.refl Hf) R fun v H2 e p => hR v H2 ⟨e, p⟩) fun Hf v H' fr s => ⟨fun p hp => ?_, fun H2 th => ?_⟩⟩
  · obtain ⟨od, y⟩ := fr.at_ p hp
    rw [y, s.1 _ _ y]
  · exact q v H2 (fr.ex (fun p hp => (at1 p hp).1) s.1 th) (k v H1 Hf H' H2 e1 fr s.1 th s.2)
/-- walks over what is locked -/
theorem walks_vals {m : Nat} {d : Addr} {od : Obj} {kvs : List (Key × V)} (hd : σ[m]? = some (some (.ref d))) (h : H d = some (.frz od (.dK kvs))) : Walks (iVals (tVar m)) σ H (kvs.map (·.2)) := fun H1 e R r =>
  ⟨_, hd, d, od, kvs, rfl, e _ _ h, r _ _ (Ex.refl H1) ⟨fun H => H d = some (.frz od (.dK kvs)), by
    have w := walk_values (d := d) (o := od) (kvs := kvs)
    rw [List.length_map]
    exact w.mono (fun _ z => z) fun i H x H' _ _ ⟨e1, k, hk⟩ => ⟨e1, by rw [List.getElem?_map, hk]; rfl⟩, fun H3 e3 => e3 _ _ (e _ _ h)⟩⟩
theorem walks_keys {m : Nat} {d : Addr} {od : Obj} {kvs : List (Key × V)} (hd : σ[m]? = some (some (.ref d))) (h : H d = some (.frz od (.dK kvs))) : Walks (iKeys (tVar m)) σ H (kvs.map fun p => kV p.1) := fun H1 e R r =>
  ⟨_, hd, d, od, rfl, .inl ⟨kvs, e _ _ h, r _ _ (Ex.refl H1) ⟨fun H => H d = some (.frz od (.dK kvs)), by
    have w := L2.walk_keys (d := d) (o := od) (kvs := kvs)
    rw [List.length_map]
    exact w.mono (fun _ z => z) fun i H x H' _ _ ⟨e1, k, v, hk, ex⟩ => ⟨e1, by rw [List.getElem?_map, hk, ex]; rfl⟩, fun H3 e3 => e3 _ _ (e _ _ h)⟩⟩⟩
/-- walks that only look -/
def WalksD (wi : TI) (σ : L2.St) (H : Hp) (xs : List V) : Prop := ∀ H1, Ex H H1 → ∀ R : It → Hp → Prop, (∀ J, (∃ G : Hp → Prop, Walk J xs.length G (YAt xs) ∧ ∀ H3, Ex H H3 → G H3) → R J H1) → wi σ H1 R
theorem walksD_keys {m : Nat} {d : Addr} {od : Obj} {kvs : List (Key × V)} (hd : σ[m]? = some (some (.ref d))) (h : H d = some (.frz od (.dK kvs))) : WalksD (iKeys (tVar m)) σ H (kvs.map fun p => kV p.1) := fun H1 e R r =>
  ⟨_, hd, d, od, rfl, .inl ⟨kvs, e _ _ h, r _ ⟨fun H => H d = some (.frz od (.dK kvs)), by
    have w := L2.walk_keys (d := d) (o := od) (kvs := kvs)
    rw [List.length_map]
    exact w.mono (fun _ z => z) fun i H x H' _ _ ⟨e1, k, v, hk, ex⟩ => ⟨e1, by rw [List.getElem?_map, hk, ex]; rfl⟩, fun H3 e3 => e3 _ _ h⟩⟩⟩
theorem flat_take {α β : Type} (ys : α → List β) : ∀ (xs : List α) (n : Nat), ((xs.take n).flatMap ys).length ≤ (xs.flatMap ys).length
  | [], _ => by simp
  | x :: xs, 0 => by simp
  | x :: xs, n + 1 => by
    have := flat_take ys xs n
    simp only [List.take_succ_cons, List.flatMap_cons, List.length_append]
    omega
/-- [e for x in xs for y in ys(x)] -/
theorem comp2 {wi wi1 : TI} {xs : List V} {ys : V → List V} {i j : Nat} {vs vs1 : List Nat} (f : V → V) (hw : Walks wi σ H xs) (hz : (xs.flatMap ys).length ≤ 1000) (wp : ∀ x, wipe ((wipe σ vs).set i (some x)) vs = wipe σ vs)
    (wp1 : ∀ x y, wipe ((wipe ((wipe σ vs).set i (some x)) vs1).set j (some y)) vs1 = wipe ((wipe σ vs).set i (some x)) vs1)
    (hi : ∀ x ∈ xs, WalksD wi1 ((wipe σ vs).set i (some x)) H (ys x)) (he : ∀ x ∈ xs, ∀ y ∈ ys x, Gives te ((wipe ((wipe σ vs).set i (some x)) vs1).set j (some y)) H (is (f y))) :
    Gives (tLc2 wi (gName i) tYes wi1 (gName j) tYes te vs vs1) σ H (lstV ((xs.flatMap ys).map f)) := fun H1 e1 Q q => by
  refine hw H1 e1 _ fun J H2 e2 ⟨G, w, g⟩ D hD => ?_
  have nD : ∀ {H3 : Hp} {o : HO}, Ex H2 H3 → Ex H2 (upd H3 D o) := fun {H3 o} e b u hb => by
    rw [upd_ne (ne_of_none hb hD)]
    exact e _ _ hb
  refine ⟨fun n m H' => m = xs.length - n ∧ n ≤ xs.length ∧ H' D = some (.lst (((xs.take n).flatMap ys).map f)) ∧ Ex H2 H', ⟨xs.length, by simp, Nat.zero_le _, by rw [List.take_zero]; exact upd_same, Ex.new hD⟩, ?_⟩
  rintro n m H' ⟨rfl, hn, a1, a2⟩
  by_cases lt : n < xs.length
  · refine .inr ⟨w.goes n H' lt (g _ a2), fun H3 => H3 D = some (.lst (((xs.take (n + 1)).flatMap ys).map f)) ∧ Ex H2 H3, fun H3 p => ⟨xs.length - (n + 1), by omega, rfl, lt, p⟩, fun x H3 y => ?_⟩
    obtain ⟨rfl, hx⟩ := w.yields n H' x H3 lt (g _ a2) y
    have mx := List.mem_of_getElem? hx
    have tk : xs.take (n + 1) = xs.take n ++ [x] := by
      rw [List.take_add_one, hx]
      rfl
    have full : (xs.take (n + 1)).flatMap ys = (xs.take n).flatMap ys ++ ys x := by
      rw [tk, List.flatMap_append]
      simp
    have few : ((xs.take n).flatMap ys).length + (ys x).length ≤ 1000 := by
      have := flat_take ys xs (n + 1)
      rw [full, List.length_append] at this
      omega
    refine ⟨wp x, ?_⟩
    show tYes _ H3 _
    unfold tYes
    dsimp only
    rw [if_pos rfl]
    refine hi x mx H3 ((e1.trans e2).trans a2) _ fun J1 ⟨G1, w1, g1⟩ => ?_
    refine ⟨fun o m H' => m = (ys x).length - o ∧ o ≤ (ys x).length ∧ H' D = some (.lst (((xs.take n).flatMap ys ++ (ys x).take o).map f)) ∧ Ex H2 H', ⟨(ys x).length, by simp, Nat.zero_le _, by
      rw [List.take_zero, List.append_nil]
      exact a1, a2⟩, ?_⟩
    rintro o m H5 ⟨rfl, ho, b1, b2⟩
    have bH := (e1.trans e2).trans b2
    by_cases lo : o < (ys x).length
    · refine .inr ⟨w1.goes o H5 lo (g1 _ bH), fun H6 => H6 D = some (.lst (((xs.take n).flatMap ys ++ (ys x).take (o + 1)).map f)) ∧ Ex H2 H6, fun H6 p => ⟨(ys x).length - (o + 1), by omega, rfl, lo, p⟩, fun z H6 y => ?_⟩
      obtain ⟨rfl, hy⟩ := w1.yields o H5 z H6 lo (g1 _ bH) y
      refine ⟨wp1 x z, ?_⟩
      rw [if_pos rfl]
      refine he x mx z (List.mem_of_getElem? hy) H6 bH _ fun v H7 e7 hv => ⟨_, e7 _ _ b1, ?_, ?_, nD (b2.trans e7)⟩
      · rw [List.length_map, List.length_append, List.length_take, sizeLine_eq]
        omega
      · rw [upd_same, List.take_add_one, hy, ← List.append_assoc, List.map_append (l₁ := (xs.take n).flatMap ys ++ (ys x).take o), show v = f z from hv]
        rfl
    · have e : o = (ys x).length := by omega
      subst e
      rw [List.take_length, ← full] at b1
      exact .inl ⟨w1.stops H5 (g1 _ bH), b1, b2⟩
  · have e : n = xs.length := by omega
    subst e
    rw [List.take_length] at a1
    exact .inl ⟨w.stops H' (g _ a2), q _ _ (e2.trans a2) ⟨D, rfl, a1⟩⟩
end
end Cm

set_option Elab.async false
set_option linter.all false
set_option maxRecDepth 100000
set_option maxHeartbeats 1000000
/-! d == e, dicts whose keys are tuples. -/
namespace DtE
open PySem PySem.Calls PyProof.Rows PyProof.V
section
variable {prog : Program} {w : World} {K : Type} [DecidableEq K] {knd : HeapKind prog w K} {A : Around} {E : Value → Shared → Prop} {s : Shared}
abbrev Ent (K : Type) := List (K × Addr × Value)
inductive Hits (A : Around) (s : Shared) (B : Ent K) : Ent K → Bool → Prop
  | nil : Hits A s B [] true
  | miss {x : K × Addr × Value} {r : Ent K} : atKey B x.1 = none → Hits A s B (x :: r) false
  | hit {x : K × Addr × Value} {p : Addr × Value} {r : Ent K} {e b : Bool} : atKey B x.1 = some p → SeqAt.EqAt A s x.2.2 p.2 e → Hits A s B r b → Hits A s B (x :: r) (e && b)
theorem same {nm : String} {a b : Addr} {xa xb : Ent K} {r : Bool} {Q : Bool → Shared → Prop} (hu : knd.room A) (na : (a == sysModules) = false) (nb : (b == sysModules) = false) (da : s.heap.DictOfH knd a xa) (db : s.heap.DictOfH knd b xb)
    (hits : xa.length = xb.length → Hits A s xb xa r) (h : Q (xa.length == xb.length && r) s) : wpAny (model prog w) A (Builtin.Dict.samePairs nm a b) Q E s := by
  obtain ⟨oa, ea, pa, ga, _, ta, la, ia, _⟩ := da
  obtain ⟨ob, eb, pb, gb, _, tb, lb, ib, ub⟩ := db
  have za := size_of_entries la
  have zb := size_of_entries lb
  rw [← za, ← zb] at h
  unfold Builtin.Dict.samePairs Builtin.Dict.showsAll
  rw [if_neg (show ¬ (a == sysModules) = true by rw [na]; decide), if_neg (show ¬ (b == sysModules) = true by rw [nb]; decide)]
  refine wpAny_bind (wpAny_pure (wpAny_bind (wpAny_pure (wpAny_bind (wpAny_dictEntries ga ta ?_)))))
  refine wpAny_bind (wpAny_dictEntries gb tb ?_)
  by_cases hz : ea.size = eb.size
  case neg =>
    rw [if_pos (by simpa using hz)]
    rw [show (ea.size == eb.size) = false by simpa using hz, Bool.false_and] at h
    exact wpAny_bind (wpAny_rule (wpAny_pure h))
  case pos =>
    have q : Q r s := by simpa [hz] using h
    have g := hits (by rw [← za, ← zb]; exact hz)
    rw [if_neg (by rw [hz]; simp)]
    refine wpAny_bind (wpAny_dictEpoch ga ta (wpAny_bind ?_))
    rw [Std.Legacy.Range.forIn_eq_forIn_range']
    simp only [Std.Legacy.Range.size, Nat.sub_zero, Nat.add_sub_cancel, Nat.div_one]
    refine wpAny_forIn_list _ (fun rest p s' => s' = s ∧ p = (none, ()) ∧ ∃ i, rest = List.range' i (ea.size - i) ∧ i ≤ ea.size ∧ Hits A s xb (xa.drop i) r) _ ?_ ?_ _ _ ⟨rfl, rfl, 0, by simp, Nat.zero_le _, g⟩
    · rintro x rest p s' ⟨rfl, rfl, i, hr, hi, hp⟩
      have lt : i < ea.size := by
        rcases Nat.lt_or_ge i ea.size with z | z
        · exact z
        · rw [Nat.sub_eq_zero_of_le z] at hr
          simp at hr
      have e1 : ea.size - i = (ea.size - (i + 1)) + 1 := by omega
      rw [e1, List.range'_succ] at hr
      obtain ⟨rfl, hr2⟩ := List.cons.inj hr
      have lt' : x < xa.length := by rw [← za]; exact lt
      obtain ⟨y, hy⟩ : ∃ y, xa[x] = y := ⟨_, rfl⟩
      have hd : xa.drop x = y :: xa.drop (x + 1) := by rw [← hy]; exact List.drop_eq_getElem_cons lt'
      have ex : ea[x]? = some (entryOfKey knd y) := by rw [entry_at la x, List.getElem?_eq_getElem lt', hy]; rfl
      have iy : knd.is s'.heap y.1 y.2.1 := ia y (by rw [← hy]; exact List.getElem_mem lt')
      rw [hd] at hp
      refine wpAny_bind (wpAny_dictEntries ga ta ?_)
      rw [ex]
      show wpAny _ _ (holding [(entryOfKey knd y).key, (entryOfKey knd y).val] _ >>= _) _ _ _
      refine wpAny_bind (wpAny_holding (wpAny_bind ?_))
      refine wpAny_dictFind_heap hu iy gb tb lb ib ub (fun hno => ?_) fun j p hj => ?_
      · have hn := atKey_none_of_get hno
        cases hp with
        | miss _ =>
          refine wpAny_pure ?_
          show wpAny _ _ (if (!false) = true then _ else _) _ _ _
          rw [if_pos (by decide)]
          exact wpAny_pure (wpAny_pure q)
        | hit h1 _ _ =>
          rw [hn] at h1
          cases h1
      · have hn := atKey_of_get ub hj
        refine wpAny_bind (wpAny_dictEntries gb tb ?_)
        rw [entry_at lb j, hj]
        cases hp with
        | miss h1 =>
          rw [hn] at h1
          cases h1
        | @hit _ p' _ e b' h1 h2 h3 =>
          rw [hn] at h1
          obtain rfl := Option.some.inj h1
          refine wpAny_holding (h2 prog w _ _ ?_)
          cases e with
          | false =>
            show wpAny _ _ (if (!false) = true then _ else _) _ _ _
            rw [if_pos (by decide)]
            exact wpAny_pure (wpAny_pure (by simpa using q))
          | true =>
            show wpAny _ _ (if (!true) = true then _ else _) _ _ _
            rw [if_neg (by decide)]
            refine wpAny_bind (wpAny_dictEpoch ga ta ?_)
            rw [if_neg (by simp)]
            exact wpAny_pure ⟨rfl, rfl, x + 1, hr2, lt, by simpa using h3⟩
    · rintro p s' ⟨rfl, rfl, i, hr, hi, hp⟩
      have e1 : i = ea.size := by
        rcases Nat.lt_or_ge i ea.size with z | z
        · have e2 : ea.size - i = (ea.size - (i + 1)) + 1 := by omega
          rw [e2, List.range'_succ] at hr
          cases hr
        · exact Nat.le_antisymm hi z
      rw [e1, za, List.drop_length] at hp
      cases hp
      exact wpAny_pure q
theorem eq_at {a b : Addr} {xa xb : Ent K} {r : Bool} {Q : Value → Shared → Prop} (hr : knd.room A.in1) (na : (a == sysModules) = false) (nb : (b == sysModules) = false) (da : s.heap.DictOfH knd a xa) (db : s.heap.DictOfH knd b xb) (hu : A.units < cLine)
    (hits : xa.length = xb.length → Hits A.in1 s xb xa r) (h : Q (.bool (xa.length == xb.length && r)) s) : wpAny (model prog w) A (compareOp .Eq (.ref a) (.ref b)) Q E s := by
  refine wpAny_richCompare_same_room (op := .Eq) da.typeIs db.typeIs PySem.F.slot_dict_eq (wpAny_call_entry PySem.F.slot_dict_eq da.typeIs PySem.F.entry_dict_eq ?_ (PySem.F.args_dict_eq_2 _ _)) hu
  show wpAny _ _ (Builtin.Dict.dictSlotArgs "__eq__" ⟨[.ref a, .ref b], []⟩ >>= _) _ _ s
  unfold Builtin.Dict.dictSlotArgs
  refine wpAny_bind (wpAny_bind (wpAny_notOrdered_dict da.typeIs (by
    show wpAny _ _ (pure (Value.ref a, Value.ref b)) _ _ s
    refine wpAny_pure (wpAny_bind (wpAny_isInstance (T := "dict") db.typeIs PySem.F.sub_dict_dict ?_))
    simp only [Bool.not_true, Bool.false_eq_true, if_false]
    refine wpAny_bind (wpAny_pure (wpAny_bind (wpAny_pure (wpAny_bind (same hr na nb da db hits ?_)))))
    exact wpAny_pure ⟨_, rfl, (by intro x; cases x), by simpa using h⟩)))
end
end DtE
namespace DtE
open PySem PySem.Spec PyProof.Rows L2
/-- amounts by tuples -/
abbrev TRow := List (List Key × Int)
def tents (r : TRow) : List (List Key × V) := r.map fun t => (t.1, .int t.2)
def lookT (r : TRow) (k : List Key) : Option Int := (r.find? fun t => decide (t.1 = k)).map (·.2)
def sameT (a b : TRow) : Bool := a.length == b.length && a.all fun t => decide (lookT b t.1 = some t.2)
theorem valV_tents (k : List Key) : ∀ r : TRow, valV (tents r) k = (lookT r k).map V.int
  | [] => rfl
  | t :: r => by
    have ih := valV_tents k r
    unfold tents lookT at ih ⊢
    by_cases e : t.1 = k
    · rw [List.map_cons, valV_pos e, List.find?_cons, decide_eq_true e] <;> rfl
    · rw [List.map_cons, valV_neg e, ih, List.find?_cons, decide_eq_false e]
theorem hits_of {H : Hp} {A : Around} {s : Shared} {b : TRow} {xb : List (List Key × Addr × Value)} (rb : KT H (tents b) xb) : ∀ {a : TRow} {xa : List (List Key × Addr × Value)}, KT H (tents a) xa → Hits A s xb xa (a.all fun t => decide (lookT b t.1 = some t.2))
  | [], _, r => by
    cases r
    exact .nil
  | t :: a, _, r => by
    cases r with
    | @cons _ q _ _ h h2 =>
      obtain ⟨e1, _, ev⟩ := h
      have ih := hits_of (A := A) (s := s) rb h2
      have z := rb.val t.1
      rw [valV_tents] at z
      rw [List.all_cons]
      cases c : lookT b t.1 with
      | none =>
        rw [c] at z
        have z2 : atKey xb q.1 = none := by
          rw [← e1]
          cases y : atKey xb t.1 with
          | none => rfl
          | some p =>
            rw [y] at z
            exact z.elim
        exact .miss z2
      | some n =>
        rw [c] at z
        cases y : atKey xb t.1 with
        | none =>
          rw [y] at z
          exact z.elim
        | some p =>
          rw [y] at z
          obtain ⟨u, eu⟩ : ∃ u, p.2 = Value.int n u := z
          obtain ⟨u2, eu2⟩ : ∃ u, q.2.2 = Value.int t.2 u := ev
          have eq : SeqAt.EqAt A s q.2.2 p.2 (decide (t.2 = n)) := by
            have f := PySem.W.keq_flat (A := A) (s := s) (v := q.2.2) (y := p.2) (d := .int t.2) (e := .int n) (by rw [eu2]; exact PyProof.V.Flat.int _ _) (by rw [eu]; exact PyProof.V.Flat.int _ _)
            have e3 : PyData.eqv (.int t.2) (.int n) = decide (t.2 = n) := by
              by_cases w : t.2 = n
              · simp [PyData.eqv, w]
              · simp [PyData.eqv, w]
            rw [e3] at f
            exact f
          have e4 : decide (some n = some t.2) = decide (t.2 = n) := by
            by_cases w : t.2 = n
            · rw [w, decide_eq_true rfl, decide_eq_true rfl]
            · rw [decide_eq_false w, decide_eq_false fun h => w (Option.some.inj h).symm]
          rw [e4]
          exact .hit (p := p) (by rw [← e1]; exact y) eq ih
def rEqT : R2 := fun x y H Q => ∃ (a b : Addr) (r r' : TRow), x = .ref a ∧ y = .ref b ∧ H a = some (.dT (tents r)) ∧ H b = some (.dT (tents r')) ∧ Q (.bl (sameT r r')) H
theorem op_eqT {X : Cx} (hu : X.A.units + 1 < cLine) : OpR X (compareOp .Eq) rEqT := by
  intro pins s σ H x y v u Q I rx ry h
  obtain ⟨a, b, r, r', rfl, rfl, ha, hb, q⟩ := h
  cases rx
  cases ry
  obtain ⟨_, na, xa, ra, da⟩ := dt_of I.hok ha
  obtain ⟨_, nb, xb, rb, db⟩ := dt_of I.hok hb
  refine eq_at (knd := tupleKind (mixKind X.prog X.w)) (by show X.A.units + 1 < cLine; exact hu) na nb da db (by omega) (fun _ => hits_of rb ra) ?_
  have l1 : xa.length = r.length := by rw [← Paired.length ra]; exact List.length_map _
  have l2 : xb.length = r'.length := by rw [← Paired.length rb]; exact List.length_map _
  exact fin_bl I q (by rw [l1, l2]; rfl)
end DtE

set_option Elab.async false
set_option linter.all false
set_option maxRecDepth 100000
set_option maxHeartbeats 4000000
/-! Names in their order; what a side tells. -/
namespace Fk
open PySem PySem.Spec PyProof.Rows L2 EvP
def leS (a b : Str) : Prop := a.cps.toList ≤ b.cps.toList
theorem leS_trans {a b c : Str} (h : leS a b) (k : leS b c) : leS a c := List.le_trans h k
theorem leS_anti {a b : Str} (h : leS a b) (k : leS b a) : a = b := by
  have := List.le_antisymm h k
  cases a
  cases b
  exact congrArg Str.mk (Array.toList_inj.mp this)
theorem leS_total (a b : Str) : leS a b ∨ leS b a := List.le_total _ _
theorem rising_pairwise : ∀ (l : List Str) (p : Str), risingS p l = true → (p :: l).Pairwise leS
  | [], _, _ => List.pairwise_singleton _ _
  | x :: r, p, h => by
    obtain ⟨h1, h2⟩ := Bool.and_eq_true_iff.mp (show (!ltCps x.cps.toList p.cps.toList && risingS x r) = true from h)
    have h3 : leS p x := by
      rw [ltCps_eq] at h1
      exact List.not_lt.mp (by simpa using h1)
    have ih := rising_pairwise r x h2
    refine List.pairwise_cons.mpr ⟨fun y hy => ?_, ih⟩
    rcases List.mem_cons.mp hy with rfl | hy
    · exact h3
    · exact leS_trans h3 ((List.pairwise_cons.mp ih).1 y hy)
theorem sorted_pairwise : ∀ {l : List Str}, sortedS l = true → l.Pairwise leS
  | [], _ => List.Pairwise.nil
  | x :: r, h => rising_pairwise r x h
/-- names in their order -/
def srt (xs : List Str) : List Str := xs.mergeSort fun a b => decide (a.cps.toList ≤ b.cps.toList)
theorem srt_pairwise (xs : List Str) : (srt xs).Pairwise leS := by
  have := List.pairwise_mergeSort (le := fun a b : Str => decide (a.cps.toList ≤ b.cps.toList)) (fun a b c h k => decide_eq_true (List.le_trans (of_decide_eq_true h) (of_decide_eq_true k)))
    (fun a b => by
      rcases leS_total a b with h | h
      · rw [decide_eq_true (show a.cps.toList ≤ b.cps.toList from h)]
        rfl
      · rw [decide_eq_true (show b.cps.toList ≤ a.cps.toList from h), Bool.or_true]) xs
  exact this.imp fun h => of_decide_eq_true h
theorem srt_perm (xs : List Str) : (srt xs).Perm xs := List.mergeSort_perm xs _
theorem srt_of {xs ys : List Str} (p : ys.Perm xs) (h : sortedS ys = true) : ys = srt xs :=
  List.Perm.eq_of_pairwise (le := leS) (fun _ _ _ _ h k => leS_anti h k) (sorted_pairwise h) (srt_pairwise xs) (p.trans (srt_perm xs).symm)
theorem srt_eq {xs ys : List Str} (p : ys.Perm xs) : srt ys = srt xs :=
  List.Perm.eq_of_pairwise (le := leS) (fun _ _ _ _ h k => leS_anti h k) (srt_pairwise ys) (srt_pairwise xs) ((srt_perm ys).trans (p.trans (srt_perm xs).symm))
/-- names with amounts -/
abbrev Row := List (Str × Int)
def amt (kvs : Row) (n : Str) : Int := (kvs.lookup n).getD 0
/-- all names in their order, each with its amount -/
def asc (kvs : Row) : Row := (srt (kvs.map (·.1))).map fun n => (n, amt kvs n)
/-- those above 0 -/
def told (kvs : Row) : Row := (asc kvs).filter fun t => decide (0 < t.2)
/-- as entries of a dict -/
def ents (kvs : Row) : List (Key × V) := kvs.map fun t => ((Sum.inr t.1 : Key), V.int t.2)
theorem valV_ents : ∀ (kvs : Row) (n : Str), valV (ents kvs) (Sum.inr n) = (kvs.lookup n).map V.int
  | [], _ => rfl
  | t :: r, n => by
    by_cases h : t.1 = n
    · rw [show ents (t :: r) = ((Sum.inr t.1 : Key), V.int t.2) :: ents r from rfl, valV_pos (by rw [h]), show ((t :: r).lookup n) = some t.2 by
        obtain ⟨a, b⟩ := t
        simp only at h
        subst h
        simp [List.lookup]]
      rfl
    · rw [show ents (t :: r) = ((Sum.inr t.1 : Key), V.int t.2) :: ents r from rfl, valV_neg (fun z => h (Sum.inr.inj z)), valV_ents r n, show ((t :: r).lookup n) = r.lookup n by
        obtain ⟨a, b⟩ := t
        have : (n == a) = false := beq_eq_false_iff_ne.mpr fun z => h z.symm
        simp [List.lookup, this]]
theorem lookup_mem : ∀ {kvs : Row} {n : Str}, n ∈ kvs.map (·.1) → ∃ a, kvs.lookup n = some a ∧ (n, a) ∈ kvs
  | (m, b) :: r, n, h => by
    by_cases e : n = m
    · subst e
      exact ⟨b, by simp [List.lookup], .head _⟩
    · rcases List.mem_cons.mp h with h | h
      · exact absurd h e
      · obtain ⟨a, h1, h2⟩ := lookup_mem h
        have : (n == m) = false := beq_eq_false_iff_ne.mpr e
        exact ⟨a, by simp [List.lookup, this, h1], .tail _ h2⟩
theorem amt_of {kvs : Row} {n : Str} (h : n ∈ kvs.map (·.1)) : kvs.lookup n = some (amt kvs n) ∧ (n, amt kvs n) ∈ kvs := by
  obtain ⟨a, h1, h2⟩ := lookup_mem h
  unfold amt
  rw [h1]
  exact ⟨rfl, h2⟩
theorem mem_srt {xs : List Str} {n : Str} : n ∈ srt xs ↔ n ∈ xs := (srt_perm xs).mem_iff
def meth (j : Nat) : Stmt := match top 25 with
  | .ClassDef _ _ _ body _ _ _ _ _ _ _ => body.getD j (.Pass ⟨0, 0, 0, 0⟩)
  | _ => .Pass ⟨0, 0, 0, 0⟩
abbrev sInit : Stmt := meth 0
end Fk

set_option Elab.async false
set_option linter.all false
set_option maxRecDepth 100000
set_option maxHeartbeats 4000000
/-! What calls and signs give, by values. -/
namespace Cm
open PySem PySem.Spec PyProof.Rows L2 EvP
def dictV (kvs : List (Key × V)) : PR := ⟨fun v H => ∃ a, v = .ref a ∧ H a = some (.dK kvs), fun _ _ _ e ⟨a, h1, h2⟩ => ⟨a, h1, e _ _ h2⟩⟩
/-- the same, new over H0 -/
def dictN (H0 : Hp) (kvs : List (Key × V)) : PR := ⟨fun v H => ∃ a, v = .ref a ∧ H a = some (.dK kvs) ∧ H0 a = none, fun _ _ _ e ⟨a, h1, h2, h3⟩ => ⟨a, h1, e _ _ h2, h3⟩⟩
section
variable {K : PySem.W.Frag} {σ : L2.St} {H : Hp} {te tl tv : TE} {xs : List V} {i j : Nat} {vs : List Nat}
theorem g_sorted {ss : List Str} (h : Gives te σ H (lstV (ss.map V.str))) (hz : ss.length < 64) : Gives (tCB (rSortedS K) (tCons te tNil)) σ H (lstV ((Fk.srt ss).map V.str)) := fun H1 e Q q =>
  h H1 e _ fun v H2 e2 ⟨a, ev, ha⟩ => ⟨a, ss, by rw [ev], SqL.of ha, hz, fun ys p pm so hp => by
    rw [Fk.srt_of pm so]
    exact q _ _ (e2.trans (Ex.new hp)) ⟨p, rfl, upd_same⟩⟩
theorem g_sum {ns : List Int} (h : Gives te σ H (lstV (ns.map V.int))) : Gives (tCB (rSum K) (tCons te tNil)) σ H (is (.int ns.sum)) := fun H1 e Q q =>
  h H1 e _ fun v H2 e2 ⟨a, ev, ha⟩ => ⟨a, ns, by rw [ev], SqL.of ha, q _ _ e2 rfl⟩
theorem g_tupV (h : Gives te σ H (lstV xs)) : Gives (tThen te (kTup K)) σ H (tupV xs) := fun H1 e Q q =>
  h H1 e _ fun v H2 e2 ⟨a, ev, ha⟩ => .inl ⟨a, xs, ev, SqL.of ha, fun p hp => q _ _ (e2.trans (Ex.new hp)) ⟨p, rfl, upd_same⟩⟩
theorem g_tup {H0 : Hp} {Ps : List PR} (h : Gives te σ H (lst H0 Ps)) : Gives (tThen te (kTup K)) σ H (tup Ps) := fun H1 e Q q =>
  h H1 e _ fun v H2 e2 ⟨a, ws, ev, ha, _, hs⟩ => .inl ⟨a, ws, ev, SqL.of ha, fun p hp => q _ _ (e2.trans (Ex.new hp)) ⟨p, ws, rfl, upd_same, hs.ex (Ex.new hp)⟩⟩
/-- d[k], d in slot i, k in slot j -/
theorem g_get {d : Addr} {kvs : List (Key × V)} {k : Key} {v : V} (hi : σ[i]? = some (some (.ref d))) (hj : σ[j]? = some (some (kV k))) (hd : H d = some (.dK kvs)) (hv : valV kvs k = some v) : Gives (tDGet (tVar i) (tVar j)) σ H (is v) := fun H1 e Q q =>
  ⟨_, hi, _, hj, d, v, rfl, by rw [← hv]; exact DGet.k (e _ _ hd), q _ _ (Ex.refl H1) rfl⟩
/-- x > n -/
theorem t_gt {a b : TE} {x y : Int} (h : Gives a σ H (is (.int x))) (k : Gives b σ H (is (.int y))) : ∀ H1, Ex H H1 → ∀ Q : Bool → Hp → Prop, (∀ H2, Ex H1 H2 → Q (decide (y < x)) H2) → tTest (tOp (rI0 fun i j => .bl (decide (j < i))) a b) σ H1 Q := fun H1 e Q q =>
  h H1 e _ fun v H2 e2 ev => k H2 (e.trans e2) _ fun u H3 e3 eu => ⟨x, y, ev, eu, _, rfl, q _ (e2.trans e3)⟩
/-- {n: e for n in names} over a tuple of names -/
theorem comp_dict {ss : List Str} (f : Str → V) (h : Gives tl σ H (tupV (ss.map V.str))) (hz : ss.length ≤ 1000) (nod : ss.Nodup) (hi : i < σ.length) (wp : ∀ x, wipe ((wipe σ vs).set i (some x)) vs = wipe σ vs)
    (he : ∀ n ∈ ss, Gives tv ((wipe σ vs).set i (some (.str n))) H (is (f n))) : Gives (tDc (iTup K tl) (gName i) tYes (tVar i) tv vs) σ H (dictN H (ss.map fun n => ((Sum.inr n : Key), f n))) := fun H1 e1 Q q => by
  refine h H1 e1 _ fun v H2 e2 ⟨a, ev, ha⟩ => ⟨a, ev, ⟨_, SqT.of ha⟩, fun D hD => ?_⟩
  refine dc_tup (xs := ss.map V.str) (fun j H' => H' D = some (.dK ((ss.take j).map fun n => ((Sum.inr n : Key), f n))) ∧ Ex H2 H') ⟨by rw [List.take_zero]; exact upd_same, Ex.new hD⟩ (fun j H' _ ⟨_, e3⟩ => SqT.of (e3 _ _ ha)) (fun j x H' hx ⟨a1, a2⟩ => ?_) (fun H' ⟨a1, a2⟩ => ?_)
  · rw [List.getElem?_map] at hx
    obtain ⟨n, hn, rfl⟩ := Option.map_eq_some_iff.mp hx
    have eH := (e1.trans e2).trans a2
    have lw : (wipe σ vs).length = σ.length := wipe_length σ vs
    refine ⟨wp _, .str n, by rw [List.getElem?_set_self (by rw [lw]; exact hi)], he n (List.mem_of_getElem? hn) _ eH _ fun v H4 e4 hv => ⟨_, Sum.inr n, rfl, e4 _ _ a1, ?_, ?_, fun b o hb => ?_⟩⟩
    · rw [List.length_map, List.length_take, sizeLine_eq]
      omega
    · have new : valV ((ss.take j).map fun n => ((Sum.inr n : Key), f n)) (Sum.inr n) = none := by
        have no : ¬ (((ss.take j).map fun n => ((Sum.inr n : Key), f n)).any fun kv => decide (kv.1 = Sum.inr n)) = true := by
          intro y
          obtain ⟨p, hp, ep⟩ := List.any_eq_true.mp y
          obtain ⟨m, hm, rfl⟩ := List.mem_map.mp hp
          have e : m = n := Sum.inr.inj (of_decide_eq_true ep)
          rw [e] at hm
          obtain ⟨t, ht, et⟩ := List.getElem_of_mem hm
          rw [List.getElem_take] at et
          have lt : t < j := by
            rw [List.length_take] at ht
            omega
          obtain ⟨jl, ej⟩ := List.getElem?_eq_some_iff.mp hn
          exact List.pairwise_iff_getElem.mp nod t j (by rw [List.length_take] at ht; omega) jl lt (et.trans ej.symm)
        rw [valV_any] at no
        simpa using no
      rw [upd_same, putK_new _ new, List.take_add_one, hn, List.map_append, show v = f n from hv]
      rfl
    · rw [upd_ne (ne_of_none hb hD)]
      exact e4 _ _ (a2 _ _ hb)
  · rw [List.length_map, List.take_length] at a1
    exact q _ _ (e2.trans a2) ⟨D, rfl, a1, (e1.trans e2).back hD⟩
end
end Cm

set_option Elab.async false
set_option linter.all false
set_option maxRecDepth 100000
set_option maxHeartbeats 1000000
/-! {(a, x): worth for a, row in rows.items() for x, worth in row.items() if worth > 0}. -/
namespace Tb
open PySem PySem.Spec PyProof.Rows L2 EvP Cm Fk DtE
/-- names with their rows: the row's address and what it holds -/
abbrev Tab := List (Str × Addr × Fk.Row)
def key2 (a x : Str) : List Key := [Sum.inr a, Sum.inr x]
def wrow (a : Str) (r : Fk.Row) : TRow := (r.filter fun e => decide (0 < e.2)).map fun e => (key2 a e.1, e.2)
def worths (T : Tab) : TRow := T.flatMap fun t => wrow t.1 t.2.2
/-- the dict of rows at d -/
structure TabAt (H : Hp) (d : Addr) (T : Tab) : Prop where
  at_ : H d = some (.dK (T.map fun t => (Sum.inr t.1, V.ref t.2.1)))
  row : ∀ t ∈ T, H t.2.1 = some (.dK (ents t.2.2))
/-- the same, locked -/
structure TabF (H : Hp) (d : Addr) (T : Tab) : Prop where
  at_ : ∃ od, H d = some (.frz od (.dK (T.map fun t => (Sum.inr t.1, V.ref t.2.1))))
  row : ∀ t ∈ T, ∃ od, H t.2.1 = some (.frz od (.dK (ents t.2.2)))
def dictT (H0 : Hp) (r : TRow) : PR := ⟨fun v H => ∃ a, v = .ref a ∧ H a = some (.dT (tents r)) ∧ H0 a = none, fun _ _ _ e ⟨a, h1, h2, h3⟩ => ⟨a, h1, e _ _ h2, h3⟩⟩
theorem wrow_take (a : Str) {r : Fk.Row} {o : Nat} {e : Str × Int} (h : r[o]? = some e) : wrow a (r.take (o + 1)) = wrow a (r.take o) ++ if 0 < e.2 then [(key2 a e.1, e.2)] else [] := by
  unfold wrow
  rw [List.take_add_one, h, Option.toList_some, List.filter_append, List.map_append]
  by_cases c : 0 < e.2
  · rw [if_pos c, List.filter_cons, decide_eq_true c]
    rfl
  · rw [if_neg c, List.filter_cons, decide_eq_false c]
    rfl
theorem wrow_sub (a : Str) (r : Fk.Row) (o : Nat) : (wrow a (r.take o)).Sublist (wrow a r) := ((List.take_sublist o r).filter _).map _
theorem flat_sub {α β : Type} (f : α → List β) : ∀ (l : List α) (n : Nat), ((l.take n).flatMap f).Sublist (l.flatMap f)
  | [], _ => by simp
  | x :: l, 0 => by simp
  | x :: l, n + 1 => by
    rw [List.take_succ_cons, List.flatMap_cons, List.flatMap_cons]
    exact (List.Sublist.refl _).append (flat_sub f l n)
theorem valV_none {r : TRow} {k : List Key} {n : Int} (h : ((r ++ [(k, n)]).map (·.1)).Nodup) : valV (tents r) k = none := by
  rw [valV_tents]
  have z : lookT r k = none := by
    unfold lookT
    rw [Option.map_eq_none_iff, List.find?_eq_none]
    intro t ht e
    rw [List.map_append, List.nodup_append] at h
    exact h.2.2 t.1 (List.mem_map.mpr ⟨t, ht, rfl⟩) k (by simp) (of_decide_eq_true e)
  rw [z]
  rfl
theorem tents_put {r : TRow} {k : List Key} {n : Int} (h : ((r ++ [(k, n)]).map (·.1)).Nodup) : putK (tents r) k (.int n) = tents (r ++ [(k, n)]) := by
  rw [putK_new _ (valV_none h)]
  unfold tents
  rw [List.map_append]
  rfl
section
variable {K : PySem.W.Frag} {Hf : Hp} {d x u : Addr} {T : Tab}
abbrev σ0 (x d u : Addr) : L2.St := [some (.ref x), some (.ref d), some (.ref u), none, none, none, none, none]
theorem comp_worths (h : TabF Hf d T) (nod : ((worths T).map (·.1)).Nodup) (few : (worths T).length ≤ 1000) :
    Gives (Dc2.tDc2 (iItems (tVar 1)) (gTup K 2 (gCons (gName 5) (gCons (gName 3) gNil))) tYes (iItems (tVar 3)) (gTup K 2 (gCons (gName 6) (gCons (gName 7) gNil))) (tTest (tOp (rI0 fun i j => .bl (decide (j < i))) (tVar 7) (tC (.int 0))))
      (tTup (tCons (tVar 5) (tCons (tVar 6) tNil))) (tVar 7) [5, 3, 6, 7] [6, 7]) (σ0 x d u) Hf (dictT Hf (worths T)) := fun H1 e1 Q q => by
  obtain ⟨od, hd⟩ := h.at_
  refine ⟨_, rfl, d, od, _, rfl, e1 _ _ hd, fun D hD => ?_⟩
  have nD : ∀ {H3 : Hp} {o : HO}, Ex H1 H3 → Ex H1 (upd H3 D o) := fun {H3 o} e b w hb => by
    rw [upd_ne (ne_of_none hb hD)]
    exact e _ _ hb
  have w := walk_items (d := d) (o := od) (kvs := T.map fun t => ((Sum.inr t.1 : Key), V.ref t.2.1))
  rw [List.length_map] at w
  refine ⟨fun n m H' => m = T.length - n ∧ n ≤ T.length ∧ H' D = some (.dT (tents ((T.take n).flatMap fun t => wrow t.1 t.2.2))) ∧ Ex H1 H', ⟨T.length, by simp, Nat.zero_le _, by rw [List.take_zero]; exact upd_same, Ex.new hD⟩, ?_⟩
  rintro n m H' ⟨rfl, hn, a1, a2⟩
  have hd' := (e1.trans a2) _ _ hd
  by_cases lt : n < T.length
  · refine .inr ⟨w.goes n H' lt hd', fun H3 => H3 D = some (.dT (tents ((T.take (n + 1)).flatMap fun t => wrow t.1 t.2.2))) ∧ Ex H1 H3, fun H3 p => ⟨T.length - (n + 1), by omega, rfl, lt, p⟩, fun z H3 y => ?_⟩
    obtain ⟨P, y1, y2, rfl, nP, rfl, hy1, hy2⟩ := w.yields n H' z H3 lt hd' y
    obtain ⟨t, ht⟩ : ∃ t, T[n]? = some t := ⟨T[n], List.getElem?_eq_getElem lt⟩
    have mt := List.mem_of_getElem? ht
    simp only [List.getElem?_map, ht, Option.map_some, Option.some.injEq] at hy1 hy2
    subst hy1 hy2
    have eP := Ex.new (o := .tup [kV (Sum.inr t.1), V.ref t.2.1]) nP
    have a1' := eP _ _ a1
    have a2' := a2.trans eP
    generalize hH4 : upd H' P (.tup [kV (Sum.inr t.1), V.ref t.2.1]) = H4 at a1' a2' eP
    have hP : H4 P = some (.tup [.str t.1, V.ref t.2.1]) := by
      rw [← hH4]
      exact upd_same
    refine ⟨P, _, rfl, SqT.of hP, rfl, _, _, rfl, _, _, rfl, rfl, rfl, ?_⟩
    show tYes _ H4 _
    unfold tYes
    dsimp only
    rw [if_pos rfl]
    obtain ⟨orow, hr⟩ := h.row t mt
    have w1 := walk_items (d := t.2.1) (o := orow) (kvs := ents t.2.2)
    have le : (ents t.2.2).length = t.2.2.length := List.length_map _
    rw [le] at w1
    have tk : (T.take (n + 1)).flatMap (fun t => wrow t.1 t.2.2) = (T.take n).flatMap (fun t => wrow t.1 t.2.2) ++ wrow t.1 t.2.2 := by
      rw [List.take_add_one, ht, List.flatMap_append]
      simp
    refine ⟨_, rfl, t.2.1, orow, _, rfl, (e1.trans a2') _ _ hr, ?_⟩
    refine ⟨fun o m H' => m = t.2.2.length - o ∧ o ≤ t.2.2.length ∧ H' D = some (.dT (tents ((T.take n).flatMap (fun t => wrow t.1 t.2.2) ++ wrow t.1 (t.2.2.take o)))) ∧ Ex H1 H', ⟨t.2.2.length, by simp, Nat.zero_le _, by
      rw [List.take_zero]
      unfold wrow
      rw [List.filter_nil, List.map_nil, List.append_nil]
      exact a1', a2'⟩, ?_⟩
    rintro o m H5 ⟨rfl, ho, b1, b2⟩
    have hr5 := (e1.trans b2) _ _ hr
    by_cases lo : o < t.2.2.length
    · refine .inr ⟨w1.goes o H5 lo hr5, fun H6 => H6 D = some (.dT (tents ((T.take n).flatMap (fun t => wrow t.1 t.2.2) ++ wrow t.1 (t.2.2.take (o + 1))))) ∧ Ex H1 H6, fun H6 p => ⟨t.2.2.length - (o + 1), by omega, rfl, lo, p⟩, fun z H6 y => ?_⟩
      obtain ⟨P2, z1, z2, rfl, nP2, rfl, hz1, hz2⟩ := w1.yields o H5 z H6 lo hr5 y
      obtain ⟨e, he⟩ : ∃ e, t.2.2[o]? = some e := ⟨t.2.2[o], List.getElem?_eq_getElem lo⟩
      unfold ents at hz1 hz2
      simp only [List.getElem?_map, he, Option.map_some, Option.some.injEq] at hz1 hz2
      subst hz1 hz2
      have eP2 := Ex.new (o := .tup [kV (Sum.inr e.1), V.int e.2]) nP2
      have b1' := eP2 _ _ b1
      have b2' := b2.trans eP2
      generalize hH7 : upd H5 P2 (.tup [kV (Sum.inr e.1), V.int e.2]) = H7 at b1' b2' eP2
      have hP2 : H7 P2 = some (.tup [.str e.1, V.int e.2]) := by
        rw [← hH7]
        exact upd_same
      refine ⟨P2, _, rfl, SqT.of hP2, rfl, _, _, rfl, _, _, rfl, rfl, rfl, ?_⟩
      refine ⟨_, rfl, e.2, 0, rfl, rfl, _, rfl, ?_⟩
      rw [wrow_take t.1 he]
      by_cases c : 0 < e.2
      · rw [decide_eq_true c]
        dsimp only
        rw [if_pos rfl, if_pos c]
        refine ⟨_, rfl, _, rfl, by show 2 ≤ sizeLine; decide, fun p np => ?_⟩
        have sub : ((T.take n).flatMap (fun t => wrow t.1 t.2.2) ++ wrow t.1 (t.2.2.take o) ++ [(key2 t.1 e.1, e.2)]).Sublist (worths T) := by
          have s1 := wrow_sub t.1 t.2.2 (o + 1)
          rw [wrow_take t.1 he, if_pos c] at s1
          have s2 := flat_sub (fun t : Str × Addr × Fk.Row => wrow t.1 t.2.2) T (n + 1)
          rw [tk] at s2
          rw [List.append_assoc]
          exact ((List.Sublist.refl _).append s1).trans s2
        have nd' := nod.sublist (sub.map (·.1))
        have ep := Ex.new (o := .tup [V.str t.1, V.str e.1]) np
        refine ⟨_, rfl, _, key2 t.1 e.1, p, rfl, upd_same, ep _ _ b1', ?_, ?_, nD (b2'.trans ep)⟩
        · have l := sub.length_le
          unfold tents
          rw [List.length_map, sizeLine_eq]
          rw [List.length_append, List.length_singleton] at l
          omega
        · rw [upd_same, tents_put nd', List.append_assoc]
      · rw [decide_eq_false c]
        dsimp only
        rw [if_neg Bool.false_ne_true, if_neg c, List.append_nil]
        exact ⟨b1', b2'⟩
    · have e : o = t.2.2.length := by omega
      subst e
      rw [List.take_length, ← tk] at b1
      exact .inl ⟨w1.stops H5 hr5, b1, b2⟩
  · have e : n = T.length := by omega
    subst e
    rw [List.take_length] at a1
    exact .inl ⟨w.stops H' hd', q _ _ a2 ⟨D, rfl, a1, e1.back hD⟩⟩
end
end Tb

set_option Elab.async false
set_option linter.all false
set_option maxRecDepth 100000
set_option maxHeartbeats 2000000
/-! is_row, is_pair, unlike, joined, ascending, check_table. -/
namespace Tb
open PySem PySem.Spec PyProof.Rows L2 EvP Cm Fk DtE
theorem SqL.typ {K : PySem.W.Frag} {H : Hp} {a : Addr} {xs : List V} (h : SqL K H a xs) : TyX K H (.ref a) (.type "list") := by
  rcases h with (h | ⟨o, h⟩) | ⟨o, its, n, h, c, _⟩
  · exact .base (.lst h)
  · exact .base (.frz h)
  · exact .kList h c
theorem SqT.typ {K : PySem.W.Frag} {H : Hp} {a : Addr} {xs : List V} (h : SqT K H a xs) : TyX K H (.ref a) (.type "tuple") := by
  rcases h with (h | ⟨o, h⟩) | ⟨o, its, n, h, c, _⟩
  · exact .base (.tup h)
  · exact .fTuple h
  · exact .kTuple h c
theorem SqL.keep {K : PySem.W.Frag} {H H' : Hp} {a : Addr} {xs : List V} (e : Ex H H') (h : SqL K H a xs) : SqL K H' a xs := by
  rcases h with (h | ⟨o, h⟩) | h
  · exact .inl (.inl (e _ _ h))
  · exact .inl (.inr ⟨o, e _ _ h⟩)
  · exact .inr h
theorem SqT.keep {K : PySem.W.Frag} {H H' : Hp} {a : Addr} {xs : List V} (e : Ex H H') (h : SqT K H a xs) : SqT K H' a xs := by
  rcases h with (h | ⟨o, h⟩) | h
  · exact .inl (.inl (e _ _ h))
  · exact .inl (.inr ⟨o, e _ _ h⟩)
  · exact .inr h
theorem SqA.keep {K : PySem.W.Frag} {H H' : Hp} {a : Addr} {xs : List V} (e : Ex H H') (h : SqA K H a xs) : SqA K H' a xs := h.elim (fun h => .inl (SqL.keep e h)) fun h => .inr (SqT.keep e h)
section
variable {P : Program} {w : World} {K : PySem.W.Frag} {mg : Str → Option Value} {base : Heap} {f fN : Addr} {fd fdN : FuncData}
theorem ok_row (F : Fun K "is_row" "is_row" sRow f fd) (T : Blt mg) (R : BltR mg) : FnOk P w K mg base CX0 1 f fd ["value"] (spRow K) := by
  refine F.ok scRow (fun vs H Q E h => ?_) (fun cdv A outer s H vs Q E hr h => ?_)
  · obtain ⟨a, xs, rfl, _⟩ := h
    rfl
  · obtain ⟨a, xs, rfl, h, q⟩ := h
    refine ⟨_, pss_one (ps_ret (pe_callB call_isiT (by rfl) T.isi (by decide +kernel) (pa_cons (pv 0) (pa_cons (pe_tup (pa_cons (pe_bltn (v := .ty "list") (by rfl) R.list (by decide +kernel) rfl) (pa_cons (pe_bltn (v := .ty "tuple") (by rfl) R.tuple (by decide +kernel) rfl) pa_nil))) pa_nil)))), ?_⟩
    refine ⟨_, rfl, by show 2 ≤ sizeLine; decide, fun tp hp => ?_⟩
    have e := Ex.new (H := H) (o := .tup [.ty "list", .ty "tuple"]) hp
    refine ⟨.ref a, tp, [.ty "list", .ty "tuple"], ?_⟩
    rcases SqA.keep e h with h | h
    · exact ⟨.type "list", [.type "list", .type "tuple"], true, rfl, upd_same, .cons (.ty _) (.cons (.ty _) .nil), SqL.typ h, kitAny_cons (b := true) (kit_ty (by decide +kernel)) (fun z => nomatch z) (fun _ => rfl), q _ e⟩
    · exact ⟨.type "tuple", [.type "list", .type "tuple"], true, rfl, upd_same, .cons (.ty _) (.cons (.ty _) .nil), SqT.typ h, kitAny_cons (b := false) (r := true) (kit_ty (by decide +kernel)) (fun _ => kitAny_cons (b := true) (kit_ty (by decide +kernel)) (fun z => nomatch z) (fun _ => rfl)) (fun z => nomatch z), q _ e⟩
/-- is_pair of a pair of names -/
def spPair (K : PySem.W.Frag) : Sp := fun vs H Q _ => ∃ (p : Addr) (a x : Str), vs = [.ref p] ∧ H p = some (.tup [.str a, .str x]) ∧ NameV (.str a) ∧ NameV (.str x) ∧ Q (.bl true) H
theorem ok_pair (F : Fun K "is_pair" "is_pair" sPair f fd) (T : Blt mg) (R : BltR mg) (G : FnOk P w K mg base CX0 1 fN fdN ["value"] (spName K)) (b : Binds K fdN ["value"] []) (gN : mg "is_name" = some (.ref fN)) (kN : PySem.W.keepIn K (.ref fN) = true) :
    FnOk P w K mg base CX0 2 f fd ["value"] (spPair K) := by
  refine F.ok scPair (fun vs H Q E h => ?_) (fun cdv A outer s H vs Q E hr h => ?_)
  · obtain ⟨p, a, x, rfl, _⟩ := h
    rfl
  · obtain ⟨p, a, x, rfl, h, ⟨y, ey, na, na2⟩, ⟨z, ez, nx, nx2⟩, q⟩ := h
    cases ey
    cases ez
    refine ⟨_, pss_one (ps_ret (pe_and (pe_callB call_isi (by rfl) T.isi (by decide +kernel) (pa_cons (pv 0) (pa_cons (pe_bltn (v := .ty "tuple") (by rfl) R.tuple (by decide +kernel) rfl) pa_nil)))
      (pe_and (pe_cmpR op_eq (pe_callB call_len_seq (by rfl) T.len PySem.boot_len (pa_cons (pv 0) pa_nil)) pe_int (nomark _))
      (pe_and (pe_call G hr (by rfl) gN kN b .nil pass0 (pa_cons (pe_ix ix_tup (pv 0) pe_int (fun _ _ => rfl)) pa_nil))
      (pe_one (pe_call G hr (by rfl) gN kN b .nil pass0 (pa_cons (pe_ix ix_tup (pv 0) pe_int (fun _ _ => rfl)) pa_nil))))))), ?_⟩
    refine ⟨_, rfl, _, _, _, _, true, rfl, .ty _, .base (.tup h), kit_ty (by decide +kernel), _, rfl, ?_⟩
    refine ⟨_, rfl, p, _, rfl, .inr (SqT.of h), ?_⟩
    refine ⟨rfl, _, rfl, ?_⟩
    rw [show decide (V.int (([V.str a, V.str x].length : Nat) : Int) = V.int 2) = true from decide_eq_true rfl, if_pos rfl]
    refine ⟨_, rfl, p, _, _, _, rfl, rfl, SqT.of h, atI_nat (xs := [V.str a, V.str x]) (j := 0) rfl, _, rfl, .inl ⟨a, rfl, na, _, rfl, ?_⟩⟩
    rw [na2, if_pos rfl]
    refine ⟨_, rfl, p, _, _, _, rfl, rfl, SqT.of h, atI_nat (xs := [V.str a, V.str x]) (j := 1) rfl, _, rfl, .inl ⟨x, rfl, nx, ?_⟩⟩
    rw [nx2]
    exact q
end
end Tb

set_option Elab.async false
set_option linter.all false
set_option maxRecDepth 100000
set_option maxHeartbeats 4000000
/-! Statements that only add objects: calls, fields. -/
namespace Fk
open PySem PySem.Spec PyProof.Rows L2 EvP Cm
/-- more built-ins that are still themselves -/
structure Blt2 (mg : Str → Option Value) : Prop where
  sorted : mg "sorted" = none
  tuple : mg "tuple" = none
  sum : mg "sum" = none
section
variable {K : PySem.W.Frag} {te ta : TE} {σ : L2.St} {H : Hp} {P : PR} {sp : Sp} {dvs : List V} {E : XK} {u : TS} {D : Ends} {f : Str}
theorem st_call (h : EvP.Gives te σ H P) (k : ∀ v H1, Ex H H1 → P.R v H1 → sp ([v] ++ dvs) H1 (fun _ H' => u D σ H') E) : tSeq (tDrop (tCall sp dvs E (tCons te tNil))) u D σ H := h H (Ex.refl H) _ k
theorem st_fld {i : Nat} (h : EvP.Gives te σ H P) (k : ∀ v H1, Ex H H1 → P.R v H1 → ∃ a C dx fs, σ[i]? = some (some (.ref a)) ∧ H1 a = some (.ins C dx fs) ∧ Cls K C ∧ NoAttr K C f ∧ fs.length < 1000 ∧ u D σ (upd H1 a (.ins C dx (putF f v fs)))) :
    tSeq (sFld K (tVar i) te f) u D σ H := h H (Ex.refl H) _ fun v H1 e r => by
  obtain ⟨a, C, dx, fs, h1, h2, h3, h4, h5, h6⟩ := k v H1 e r
  exact ⟨_, h1, a, C, dx, fs, rfl, h2, h3, h4, h5, h6⟩
theorem st_fld1 {i : Nat} (h : EvP.Gives te σ H P) (k : ∀ v H1, Ex H H1 → P.R v H1 → ∃ a C dx fs, σ[i]? = some (some (.ref a)) ∧ H1 a = some (.ins C dx fs) ∧ Cls K C ∧ NoAttr K C f ∧ fs.length < 1000 ∧ D.nx σ (upd H1 a (.ins C dx (putF f v fs)))) :
    sFld K (tVar i) te f D σ H := h H (Ex.refl H) _ fun v H1 e r => by
  obtain ⟨a, C, dx, fs, h1, h2, h3, h4, h5, h6⟩ := k v H1 e r
  exact ⟨_, h1, a, C, dx, fs, rfl, h2, h3, h4, h5, h6⟩
theorem g_fld {i : Nat} {a C dx : Addr} {fs : List (Str × V)} {v : V} (hi : σ[i]? = some (some (.ref a))) (ha : H a = some (.ins C dx fs)) (c : Cls K C) (n : NoAttr K C f) (l : fs.lookup f = some v) (hp : P.R v H) : EvP.Gives (tFld K (tVar i) f) σ H P :=
  fun H1 e Q q => ⟨_, hi, a, C, dx, fs, v, rfl, e _ _ ha, c, n, l, q _ _ (Ex.refl H1) (P.mono _ _ _ e hp)⟩
end
theorem Gives.imp {te : TE} {σ : L2.St} {H : Hp} {Q R : PR} (h : EvP.Gives te σ H Q) (k : ∀ v H, Q.R v H → R.R v H) : EvP.Gives te σ H R := fun H1 e q z => h H1 e q fun v H2 e2 hv => z v H2 e2 (k _ _ hv)
theorem tup_is {xs : List V} {v : V} {H : Hp} (h : (tup (xs.map is)).R v H) : (tupV xs).R v H := by
  obtain ⟨a, ws, ev, ha, hs⟩ := h
  exact ⟨a, ev, by rw [← all2_is hs]; exact ha⟩
end Fk

set_option Elab.async false
set_option linter.all false
set_option maxRecDepth 100000
set_option maxHeartbeats 4000000
/-! list(d.values()). -/
namespace Cm
open PySem PySem.Spec PyProof.Rows L2 EvP
theorem kv_vals : ∀ {kvs : List (Key × V)} {vs : List (Key × Value)}, KV kvs vs → Vals (kvs.map (·.2)) (vs.map (·.2))
  | [], [], _ => .nil
  | _ :: _, _ :: _, .cons a t => .cons a.2 (kv_vals t)
def tListVals (td : TE) : TE := fun σ H Q => td σ H fun x H1 => ∃ (a : Addr) (kvs : List (Key × V)), x = .ref a ∧ H1 a = some (.dK kvs) ∧ ∀ p, H1 p = none → Q (.ref p) (upd H1 p (.lst (kvs.map (·.2))))
theorem pe_listVals {X : Cx} {o : Expr} {td : TE} {p pos apos mpos : Pos} (hc : X.calm = true) (hg : Gl X "list") (hm : X.mg "list" = none) (hd : PE X o td) (hbase : attributeBase o "values" X.env (eval o X.env) = eval o X.env := by rfl) (hline : (apos.endLine == mpos.line) = true := by rfl)
    (hse : starEach [Expr.Call (.Attribute o "values" apos) [] [] mpos] X.env = [(false, eval (Expr.Call (.Attribute o "values" apos) [] [] mpos) X.env)] := by rfl) :
    PE X (.Call (.Name "list" p) [.Call (.Attribute o "values" apos) [] [] mpos] [] pos) (tListVals td) := by
  refine ⟨fun pins s σ H Q I h => ?_⟩
  refine wpAny_Call_Name_kw (ld_blt I hg hm (u := .type "list") (by decide +kernel) ?_ (by decide +kernel) (by decide +kernel))
  rw [hse]
  refine PySem.callWith_type1 (wpAny_Call_method0_late hbase hline (thn (hd.run pins s σ H _ I h) fun v s1 ⟨x, H1, I1, r1, a, kvs, ev, ha, q⟩ => ?_))
  subst ev
  obtain rfl : v = Value.ref a := r1
  obtain ⟨z, sy, vs, rel, dof⟩ := dk_of I1.hok ha
  obtain ⟨ep, dat⟩ := dof.dictAt
  have d2 := dat
  obtain ⟨ob, es, ho, ex, _⟩ := d2
  refine ⟨"dict", "dict.values", F.plainAttrs_dict, F.slot_dict_values, F.type_dict_values, ⟨ob, ho, ex.1⟩, fun b e => ?_, Calls.callWith_builtin rfl (PySem.evalArgs_none ?_)⟩
  · cases e
    exact ⟨ob, ho, ex.2.1⟩
  refine call_meetsIn F.slot_dict_values ⟨ob, ho, ex.1⟩ F.entry_dict_values (F.args_dict_values_1 _) (meets_dict_values (mixKind X.prog X.w) a sy) ⟨⟨vs, dof⟩, ?_⟩
  have k1 : ∀ b u, s1.heap.get? b = some u → (s1.heap.push { cls := .type "dict_values", data := .fields #[.ref a] }).get? b = some u := fun b u e => Heap.get?_push_of_some _ e
  have sz : (s1.heap.push { cls := .type "dict_values", data := .fields #[.ref a] }).objs.size = s1.heap.objs.size + 1 := Heap.size_push _ _
  refine PySem.W.kdl_call (PySem.W.kdl_values (knd := mixKind X.prog X.w) (r := s1.heap.objs.size) (d := a) (kvs := vs) (ep := ep)) (I.ok.hd hc) ⟨⟨_, Heap.get?_push_size _ rfl, rfl, rfl⟩, dat.keep k1⟩ (by rw [← rel.length]; exact z) fun h2 tk acc c2 hk hD hacc => ?_
  have hl : acc.toList = vs.map (·.2) := by
    refine List.ext_getElem? fun j => ?_
    rw [List.getElem?_map, Array.getElem?_toList]
    cases hj : acc[j]? with
    | some v =>
      obtain ⟨k, hk2⟩ := hacc.2 j v hj
      rw [hk2]
      rfl
    | none =>
      have : vs.length ≤ j := by
        rw [← hacc.1]
        exact Array.getElem?_eq_none_iff.mp hj
      rw [List.getElem?_eq_none_iff.mpr this]
      rfl
  have new : ObjOk X.prog X.w (upd H1 (s1.heap.objs.size + 1) (.lst (kvs.map (·.2)))) h2 (s1.heap.objs.size + 1) (.lst (kvs.map (·.2))) :=
    ⟨by rw [List.length_map]; exact z, acc.toList, c2, by rw [hl]; exact kv_vals rel, by rw [Array.toArray_toList, ← sz]; exact hD⟩
  have nn : H1 (s1.heap.objs.size + 1) = none := I1.hok.fresh (Nat.le_succ _)
  refine ⟨.ref (s1.heap.objs.size + 1), upd H1 (s1.heap.objs.size + 1) (.lst (kvs.map (·.2))), I1.laid (t' := tk) (fun b u e => hk b u (k1 b u e)) (Nat.le_succ _) new, ?_, q _ nn⟩
  show Value.ref _ = Value.ref _
  rw [sz]
end Cm

set_option Elab.async false
set_option linter.all false
set_option maxRecDepth 100000
set_option maxHeartbeats 2000000
/-! check_table. -/
namespace Tb
open PySem PySem.Spec PyProof.Rows L2 EvP Cm Fk DtE
abbrev sCheck : Stmt := top 30
abbrev NC : List Str := ["rows", "uses", "row"]
theorem scCheck : FnScope NC ["rows", "uses"] (defScope sCheck) := ⟨rfl, rfl, rfl, by decide +kernel, rfl, by decide +kernel, by decide +kernel⟩
/-- the dict of rows, as an object -/
abbrev rowsO (T : Tab) : HO := .dK (T.map fun t => (Sum.inr t.1, V.ref t.2.1))
/-- a dict of rows that Table takes -/
structure TabOk (T : Tab) : Prop where
  nod : (T.map (·.1)).Nodup
  nodA : (T.map (·.2.1)).Nodup
  nm : ∀ t ∈ T, NameV (.str t.1)
  row : ∀ t ∈ T, (t.2.2.map (·.1)).Nodup ∧ (∀ e ∈ t.2.2, NameV (.str e.1) ∧ 0 ≤ e.2) ∧ t.2.2.length ≤ 12
  few : T.length ≤ 12
def locks (d : Addr) (T : Tab) : List (Addr × HO) := (d, rowsO T) :: T.map fun t => (t.2.1, .dK (ents t.2.2))
theorem froz1 {d : Addr} {T : Tab} {H Hf : Hp} (h : TabAt H d T) (f : Froz [(d, rowsO T)] H Hf) : (∃ od, Hf d = some (.frz od (rowsO T))) ∧ ∀ t ∈ T, Hf t.2.1 = some (.dK (ents t.2.2)) := by
  refine ⟨f.at_ _ (.head _), fun t ht => ?_⟩
  have ne : t.2.1 ≠ d := fun z => by
    have a := h.row t ht
    rw [z, h.at_] at a
    have b := HO.dK.inj (Option.some.inj a)
    cases c : t.2.2 with
    | nil =>
      rw [c] at b
      have : T = [] := List.map_eq_nil_iff.mp b
      rw [this] at ht
      cases ht
    | cons e r =>
      rw [c] at b
      cases T with
      | nil => cases ht
      | cons t0 T0 =>
        have := (List.cons.inj b).1
        have := (Prod.mk.inj this).2
        cases this
  rw [f.old _ (by simpa using ne)]
  exact h.row t ht
section
variable {K : PySem.W.Frag} {σ : L2.St} {H : Hp} {t : TE} {ds : List (Addr × HO)} {xs : List V}
theorem g_lockL (nd : (ds.map (·.1)).Nodup) (at_ : ∀ p ∈ ds, H p.1 = some p.2 ∧ Mut (some p.2)) (h : ∀ H1, Ex H H1 → ∀ Hf, Froz ds H1 Hf → EvP.Gives t σ Hf (lstV xs)) : EvP.Gives (tLockL t) σ H (lstV xs) :=
  g_lock nd at_ h fun v H1 Hf H' H2 _ fr e th ⟨a, ev, ha⟩ => ⟨a, ev, th.new fr e ha fun _ _ z => nomatch z⟩
theorem g_allT {n : Nat} {te : TE} (h : EvP.Gives te σ H (lstV (List.replicate n (.bl true)))) : EvP.Gives (tCB (rAll K) (tCons te tNil)) σ H (is (.bl true)) := fun H1 e Q q =>
  h H1 e _ fun v H2 e2 ⟨a, ev, ha⟩ => by
    subst ev
    refine ⟨a, List.replicate n true, rfl, SqL.of (by rw [List.map_replicate]; exact ha), ?_⟩
    rw [show (List.replicate n true).all id = true by rw [List.all_eq_true]; intro b hb; exact (List.mem_replicate.mp hb).2]
    exact q _ _ e2 rfl
theorem TabAt.ex {H1 : Hp} {d : Addr} {T : Tab} (e : Ex H H1) (h : TabAt H d T) : TabAt H1 d T := ⟨e _ _ h.at_, fun t ht => e _ _ (h.row t ht)⟩
/-- all([isinstance(row, dict) for row in rows.values()]) -/
theorem g_dicts {d u : Addr} {T : Tab} (h : TabAt H d T) (few : T.length ≤ 12) : EvP.Gives (tCB (rAll K) (tCons (tLockL (tLc (iVals (tVar 0)) (gName 2) tYes (tCB (rIsi K) (tCons (tVar 2) (tCons (tC (.ty "dict")) tNil))) [2])) tNil)) [some (.ref d), some (.ref u), none] H (is (.bl true)) := by
  refine g_allT (n := T.length) (g_lockL (ds := [(d, rowsO T)]) (by simp) (fun p hp => ?_) fun H1 e1 Hf fr => ?_)
  · rw [List.mem_singleton.mp hp]
    exact ⟨h.at_, True.intro⟩
  · obtain ⟨⟨od, f1⟩, f2⟩ := froz1 (h.ex e1) fr
    have w := comp_is (i := 2) (vs := [2]) (te := tCB (rIsi K) (tCons (tVar 2) (tCons (tC (.ty "dict")) tNil))) (tt := tYes) (σ := [some (.ref d), some (.ref u), none]) (H := Hf) (fun _ => true) (fun _ => V.bl true) (walks_vals (m := 0) rfl f1)
      (by rw [List.length_map, List.length_map]; omega) (fun _ => rfl) (fun _ _ H2 _ Q h => h) (fun y hy _ => fun H2 e2 Q q => ?_)
    · rw [List.filter_eq_self.mpr (fun _ _ => rfl), List.map_map, List.map_map, show ((fun _ => V.bl true) ∘ (fun x : Key × V => x.2)) ∘ (fun t : Str × Addr × Fk.Row => ((Sum.inr t.1 : Key), V.ref t.2.1)) = fun _ => V.bl true from rfl, List.map_const'] at w
      exact w
    · rw [List.map_map] at hy
      obtain ⟨t, ht, rfl⟩ := List.mem_map.mp hy
      exact ⟨_, rfl, _, _, _, _, true, rfl, .ty _, .base (.dK (e2 _ _ (f2 t ht))), kit_ty (by decide +kernel), q _ _ (Ex.refl _) rfl⟩
/-- for row in rows.values(): .. -/
theorem st_forV1 {m i : Nat} {d : Addr} {T : Tab} {tb : TS} {D : Ends} (hd : σ[m]? = some (some (.ref d))) (h : TabAt H d T) (h0 : ∃ z, σ = σ.set i z)
    (turn : ∀ t ∈ T, ∀ H1, H1 t.2.1 = some (.dK (ents t.2.2)) → ∀ D' : Ends, (∀ H2, Ex H1 H2 → D'.nx (σ.set i (some (.ref t.2.1))) H2) → tb D' (σ.set i (some (.ref t.2.1))) H1) (k : ∀ y H1, Ex H H1 → D.nx (σ.set i y) H1) :
    tLock (tFor (iVals (tVar m)) (gName i) tb) D σ H := by
  refine ⟨d, rowsO T, h.at_, True.intro, fun od => ?_⟩
  obtain ⟨_, rows⟩ := froz1 h (Hf := upd H d (.frz od (rowsO T))) ⟨fun b hb => by rw [upd_ne (by simpa using hb)], fun p hp => by rw [List.mem_singleton.mp hp]; exact ⟨od, upd_same⟩⟩
  have hf : upd H d (.frz od (rowsO T)) d = some (.frz od (rowsO T)) := upd_same
  have back : ∀ H', Ex (upd H d (.frz od (rowsO T))) H' → Ex H (upd H' d (rowsO T)) := fun H' e b o hb => by
    by_cases c : b = d
    · rw [c, upd_same, ← h.at_, ← c]
      exact hb
    · rw [upd_ne c]
      exact e _ _ (by rw [upd_ne c]; exact hb)
  generalize upd H d (.frz od (rowsO T)) = Hf at rows hf back ⊢
  refine ⟨_, hd, d, od, _, rfl, hf, for_it walk_values (fun n o H' => Ex Hf H' ∧ ∃ y, o = σ.set i y) ⟨Ex.refl Hf, h0⟩ (fun n o H' _ q => q.1 _ _ hf) (fun n x o H' H2 hn q y => ?_) (fun o H' q => ?_)⟩
  · obtain ⟨e, z, rfl⟩ := q
    obtain ⟨rfl, ky, hk⟩ := y
    rw [List.getElem?_map] at hk
    obtain ⟨t, ht, et⟩ := Option.map_eq_some_iff.mp hk
    have et2 := (Prod.mk.inj et).2
    subst et2
    show tb _ ((σ.set i z).set i (some (.ref t.2.1))) H2
    rw [List.set_set]
    exact turn t (List.mem_of_getElem? ht) H2 (e _ _ (rows t (List.mem_of_getElem? ht))) _ fun H3 e3 => ⟨e.trans e3, _, rfl⟩
  · obtain ⟨e, z, rfl⟩ := q
    exact ⟨e _ _ hf, k z _ (back _ e)⟩
theorem st_forV {m i : Nat} {d : Addr} {T : Tab} {tb u : TS} {D : Ends} (hd : σ[m]? = some (some (.ref d))) (h : TabAt H d T) (h0 : ∃ z, σ = σ.set i z)
    (turn : ∀ t ∈ T, ∀ H1, H1 t.2.1 = some (.dK (ents t.2.2)) → ∀ D' : Ends, (∀ H2, Ex H1 H2 → D'.nx (σ.set i (some (.ref t.2.1))) H2) → tb D' (σ.set i (some (.ref t.2.1))) H1) (k : ∀ y H1, Ex H H1 → u D (σ.set i y) H1) :
    tSeq (tLock (tFor (iVals (tVar m)) (gName i) tb)) u D σ H := st_forV1 hd h h0 turn k
end
section
variable {P : Program} {w : World} {K : PySem.W.Frag} {mg : Str → Option Value} {base : Heap} {f fR fN fW : Addr} {fd fdR fdN fdW : FuncData}
def spCheck (K : PySem.W.Frag) : Sp := fun vs H Q _ => ∃ (d u : Addr) (T : Tab) (us : List Str), vs = [.ref d, .ref u] ∧ TabAt H d T ∧ TabOk T ∧ SqA K H u (us.map V.str) ∧ (∀ n ∈ us, NameV (.str n)) ∧ ∀ H', Ex H H' → Q .non H'
theorem ok_check (F : Fun K "check_table" "check_table" sCheck f fd) (T : Blt mg) (R : BltR mg) (hD : mg "dict" = none) (hA : mg "all" = none)
    (GR : FnOk P w K mg base CX0 1 fR fdR ["value"] (spRow K)) (bR : Binds K fdR ["value"] []) (gR : mg "is_row" = some (.ref fR)) (kR : PySem.W.keepIn K (.ref fR) = true)
    (GN : FnOk P w K mg base CX0 2 fN fdN ["values"] (spSeq K NameV)) (bN : Binds K fdN ["values"] []) (gN : mg "check_names" = some (.ref fN)) (kN : PySem.W.keepIn K (.ref fN) = true)
    (GW : FnOk P w K mg base CX0 3 fW fdW ["values"] (spAll K AmtV)) (bW : Binds K fdW ["values"] []) (gW : mg "check_worths" = some (.ref fW)) (kW : PySem.W.keepIn K (.ref fW) = true) :
    FnOk P w K mg base CX0 4 f fd ["rows", "uses"] (spCheck K) := by
  have nd := scCheck.nd
  refine F.ok scCheck (fun vs H Q E h => ?_) (fun cdv A outer s H vs Q E hr h => ?_)
  · obtain ⟨d, u, T, us, rfl, _⟩ := h
    rfl
  · obtain ⟨d, u, Tb, us, rfl, hT, ok, hU, nU, q⟩ := h
    refine ⟨_, pss_cons (ps_if (PW.pt (pw_or (pt_not (pt_val (pe_callB call_isi (by rfl) T.isi (by decide +kernel) (pa_cons (pv 0) (pa_cons (pe_bltn (v := .ty "dict") (by rfl) hD (by decide +kernel) rfl) pa_nil)))))
        (pw_or1 (pt_not (pt_val (pe_callB (cr_all rfl) (by rfl) hA (by decide +kernel) (pa_cons (pe_lockL (pe_lc (own := [("row", 2)]) (g := gName 2) (tt := tYes) (te := tCB (rIsi K) (tCons (tVar 2) (tCons (tC (.ty "dict")) tNil))) rfl nd (pi_values (pv 0)) (blkOk_by (N := NC) (sc := defScope sCheck) (by decide +kernel))
          (fun _ _ _ _ _ => pg_name (i := 2) nd rfl (Or.inl rfl)) (fun _ _ _ _ _ => pts_nil) (fun _ _ _ _ _ => pe_callB call_isi (by rfl) T.isi (by decide +kernel) (pa_cons (pv 2) (pa_cons (pe_bltn (v := .ty "dict") (by rfl) hD (by decide +kernel) rfl) pa_nil))))) pa_nil))))))) (pss_one ps_dead) pss_nil)
      (pss_cons (ps_if (pt_not (pt_val (pe_call GR (hr.mono (by decide)) (by rfl) gR kR bR .nil pass0 (pa_cons (pv 1) pa_nil)))) (pss_one ps_dead) pss_nil)
      (pss_cons (ps_expr (pe_call GN (hr.mono (by decide)) (by rfl) gN kN bN .nil pass0 (pa_cons (pe_callTy (T := "list") (call_listD rfl) (by rfl) R.list (by decide +kernel) (pa_cons (pv 0) pa_nil)) pa_nil)))
      (pss_cons (ps_lock (ps_for PassesOwn.never rfl (pi_values (pv 0)) (pg_name (i := 2) nd rfl (Or.inl rfl))
        (pss_one (ps_expr (pe_call GN (hr.mono (by decide)) (by rfl) gN kN bN .nil pass0 (pa_cons (pe_callTy (T := "list") (call_listD rfl) (by rfl) R.list (by decide +kernel) (pa_cons (pv 2) pa_nil)) pa_nil))))))
      (pss_cons (ps_expr (pe_call GN (hr.mono (by decide)) (by rfl) gN kN bN .nil pass0 (pa_cons (pv 1) pa_nil)))
      (pss_one (ps_lock (ps_for PassesOwn.never rfl (pi_values (pv 0)) (pg_name (i := 2) nd rfl (Or.inl rfl))
        (pss_one (ps_expr (pe_call GW hr (by rfl) gW kW bW .nil pass0 (pa_cons (pe_listVals rfl (by rfl) R.list (pv 2)) pa_nil))))))))))), ?_⟩
    refine ⟨_, rfl, _, _, _, _, true, rfl, .ty _, .base (.dK hT.at_), kit_ty (by decide +kernel), _, rfl, ?_⟩
    refine g_dicts hT ok.few H (Ex.refl H) _ fun v H1 e1 ev => ?_
    cases (show v = .bl true from ev)
    refine ⟨_, rfl, ?_⟩
    dsimp only [Bool.not_true, tNext]
    rw [if_neg (show ¬ (!true) = true by decide)]
    refine ⟨_, rfl, u, _, rfl, SqA.keep e1 hU, fun H2 e2 => ⟨_, rfl, ?_⟩⟩
    dsimp only [Bool.not_true, tNext]
    rw [if_neg (show ¬ (!true) = true by decide)]
    have e12 := e1.trans e2
    refine ⟨_, rfl, d, _, rfl, .inl (e12 _ _ hT.at_), fun p1 h1 => ⟨p1, _, rfl, .inl (SqL.of upd_same), fun y hy => ?_, ?_⟩⟩
    · rw [List.map_map] at hy
      obtain ⟨t, ht, rfl⟩ := List.mem_map.mp hy
      exact ok.nm t ht
    have e3 := e12.trans (Ex.new (o := .lst ((Tb.map fun t => ((Sum.inr t.1 : Key), V.ref t.2.1)).map fun kv => kV kv.1)) h1)
    generalize upd H2 p1 (.lst ((Tb.map fun t => ((Sum.inr t.1 : Key), V.ref t.2.1)).map fun kv => kV kv.1)) = H3 at e3 ⊢
    refine st_forV (σ := [some (.ref d), some (.ref u), none]) (m := 0) (i := 2) rfl (hT.ex e3) ⟨none, rfl⟩ (fun t ht H4 h4 D' k => ?_) fun y H5 e5 => ?_
    · refine ⟨_, rfl, t.2.1, _, rfl, .inl h4, fun p2 h2 => ⟨p2, _, rfl, .inl (SqL.of upd_same), fun y hy => ?_, k _ (Ex.new h2)⟩⟩
      unfold ents at hy
      rw [List.map_map] at hy
      obtain ⟨e, he, rfl⟩ := List.mem_map.mp hy
      exact ((ok.row t ht).2.1 e he).1
    have e6 := e3.trans e5
    refine ⟨_, rfl, u, _, rfl, SqA.keep e6 hU, fun y hy => ?_, ?_⟩
    · obtain ⟨n, hn, rfl⟩ := List.mem_map.mp hy
      exact nU n hn
    refine st_forV1 (σ := [some (.ref d), some (.ref u), y]) (m := 0) (i := 2) rfl (hT.ex e6) ⟨y, rfl⟩ (fun t ht H4 h4 D' k => ?_) fun z H7 e7 => q H7 (e6.trans e7)
    refine ⟨_, rfl, t.2.1, ents t.2.2, rfl, h4, fun p2 h2 => ⟨p2, _, rfl, SqL.of upd_same, fun y hy => ?_, k _ (Ex.new h2)⟩⟩
    unfold ents at hy
    rw [List.map_map] at hy
    obtain ⟨e, he, rfl⟩ := List.mem_map.mp hy
    exact ⟨e.2, rfl, ((ok.row t ht).2.1 e he).2⟩
end
end Tb

set_option Elab.async false
set_option linter.all false
set_option maxRecDepth 100000
set_option maxHeartbeats 1000000
/-! sorted(xs, key=f), f giving texts: over the heap alone, then as a rule of the hand layer with f = str. -/
namespace KyS
open PySem PySem.W PySem.Calls PyProof.Rows
/-- h' has all of h's objects but the one at a -/
def But (a : Addr) (h h' : Heap) : Prop := ∀ b o, b ≠ a → h.get? b = some o → h'.get? b = some o
theorem But.kept {a : Addr} {h h' h2 : Heap} (k : But a h h') (g : ∀ b o, h'.get? b = some o → h2.get? b = some o) : But a h h2 := fun b o n e => g _ _ (k b o n e)
def Strs (vs : List Value) (ks : List Str) : Prop := EachIs (fun v k => ∃ t, v = Value.str k t) vs ks
theorem Strs.reads {h : Heap} : ∀ {vs : List Value} {ks : List Str}, Strs vs ks → EachIs (fun v d => ∃ as, Reads h v d as) vs (ks.map PyData.str)
  | _, _, .nil => .nil
  | _, _, .cons ⟨t, e⟩ r => .cons ⟨[], by rw [e]; exact .str _ _⟩ (Strs.reads r)
theorem alikeT (ks : List Str) : AllAlike (ks.map PyData.str) := AllAlike.of fun b b' => by simp [alike]
theorem sortableT (ks : List Str) : Sortable (ks.map PyData.str) := Sortable.others fun b => ⟨nofun, fun xs => nofun⟩
/-- what is left: the values that stand for bs, by their keys -/
def Out (kz : List Str) (vs out : List Value) : Prop := ∃ (h : Heap) (ks : List Value), Strs ks kz ∧ out = sortVals (dataKind h (kz.map PyData.str)) false ks vs
theorem Out.each {β : Type} {R : Value → β → Prop} {bs : List β} {vs out : List Value} (k : β → Str) (h : Out (bs.map k) vs out) (hR : EachIs R vs bs) : EachIs R out (bs.mergeSort (dataLe false fun b => PyData.str (k b))) := by
  obtain ⟨hp, ks, hs, rfl⟩ := h
  have e1 : EachIs (fun v d => ∃ as, Reads hp v d as) ks ((bs.map k).map PyData.str) := hs.reads
  have e2 := each_keys (alikeT (bs.map k)) e1
  have e3 : (bs.map k).map PyData.str = bs.map fun b => PyData.str (k b) := by rw [List.map_map]; rfl
  have e4 : ∀ l, l = (bs.map k).map PyData.str → EachIs (fun v d => (dataKind hp ((bs.map k).map PyData.str)).keyOf v = some (keyToks d)) ks l := fun l q => q ▸ e2
  exact sortVals_each (κ := dataKind hp ((bs.map k).map PyData.str)) (fun b => keyToks (PyData.str (k b))) hR (each_of_map (fun b => PyData.str (k b)) (e4 _ e3.symm))
theorem Out.length {kz : List Str} {vs out : List Value} (h : Out kz vs out) (hl : kz.length = vs.length) : out.length = vs.length := by
  obtain ⟨hp, ks, hs, rfl⟩ := h
  exact sortVals_length false (hs.length.trans hl)
section
variable {prog : Program} {w : World} {A : Around} {E : Value → Shared → Prop} {s : Shared} {a kS : Addr} {vs : List Value} {keys : Array Value} {kz : List Str} {h0 : Heap} {e e1 : Nat} {P : PySem.Fin → Shared → Prop}
theorem tail_at {st : SortSt} {out : List Value} (kA : s.heap.get? a = some (seqObj "list" #[] e1)) (kK : s.heap.get? kS = some (seqObj "list" keys e)) (ne : kS ≠ a) (hz : keys.size ≤ sizeLine) (ho : out.length ≤ sizeLine) (hf : failedOf st = none)
    (eo : (arrOf st).map (·.2) = out.toArray) (h : ∀ h' c, (∀ b o, b ≠ a → b ≠ kS → s.heap.get? b = some o → h'.get? b = some o) → h'.get? a = some (seqObj "list" out.toArray c) → P (.done (.ret .none)) { s with heap := h' }) :
    wpAny (model prog w) A (ksk_tail a false e1 (.ref kS) st) P E s := by
  obtain ⟨c1, g1⟩ : ∃ c1, (s.heap.update kS (Obj.mapSeq fun _ => (#[] : Array Value))).get? kS = some (seqObj "list" #[] c1) := ⟨_, get?_update_seq kK fun _ => #[]⟩
  have g2 : (s.heap.update kS (Obj.mapSeq fun _ => (#[] : Array Value))).get? a = some (seqObj "list" #[] e1) := by rw [Heap.get?_update_ne _ _ _ _ (Ne.symm ne)]; exact kA
  obtain ⟨c2, g3⟩ : ∃ c2, ((s.heap.update kS (Obj.mapSeq fun _ => (#[] : Array Value))).update a (Obj.mapSeq fun _ => out.toArray)).get? a = some (seqObj "list" out.toArray c2) := ⟨_, get?_update_seq g2 fun _ => out.toArray⟩
  unfold ksk_tail
  dsimp only
  simp only [Bool.false_eq_true, if_false, eo]
  refine wpAny_bind (listUpdate_at kK rfl (wpAny_bind (wpAny_letGo (wpAny_bind (seqEpoch_at g2 rfl (wpAny_bind (listUpdate_at g2 rfl ?_ (Nat.zero_le _) (by rw [List.size_toArray]; omega))))))) hz (Nat.zero_le _))
  rw [hf]
  simp only [bne_self_eq_false, Bool.false_eq_true, if_false]
  exact wpAny_pure (h _ c2 (fun b o n1 n2 q => by rw [Heap.get?_update_ne _ _ _ _ n1, Heap.get?_update_ne _ _ _ _ n2]; exact q) g3)
theorem end_at (kA : s.heap.get? a = some (seqObj "list" #[] e1)) (kK : s.heap.get? kS = some (seqObj "list" keys e)) (ne : kS ≠ a) (hk : Strs keys.toList kz) (hl : kz.length = vs.length) (hz : vs.length ≤ sizeLine) (hu : A.units + 2 < cLine)
    (h : ∀ h' c out, (∀ b o, b ≠ a → b ≠ kS → s.heap.get? b = some o → h'.get? b = some o) → h'.get? a = some (seqObj "list" (List.toArray out) c) → Out kz vs out → P (.done (.ret .none)) { s with heap := h' }) :
    wpAny (model prog w) A (ksk_end a false vs.toArray e1 (.ref kS) keys) P E s := by
  have kl : keys.toList.length = vs.length := hk.length.trans hl
  have ks' : keys.size = vs.length := by rw [← Array.length_toList]; exact kl
  have S : SortsAt prog w A s (dataKind s.heap (kz.map PyData.str)) keys.toList := SortsAt.data hk.reads (alikeT kz) (sortableT kz) fun d hd => by
    obtain ⟨k, _, rfl⟩ := List.mem_map.mp hd
    show A.units + 0 < cLine
    omega
  obtain ⟨kd, L1, L2⟩ := S.kind
  have KO : PyProof.Rows.KeysOf (dataKind s.heap (kz.map PyData.str)) (keys.zip vs.toArray) := keysOf_zip S.keys
  have O : Out kz vs (sortVals (dataKind s.heap (kz.map PyData.str)) false keys.toList vs) := ⟨s.heap, keys.toList, hk, rfl⟩
  have fin : ∀ st : SortSt, (arrOf st).Perm (keys.zip vs.toArray) → SortedToK (dataKind s.heap (kz.map PyData.str)) (arrOf st) (keys.zip vs.toArray).size → Stable (dataKind s.heap (kz.map PyData.str)) (arrOf st) (keys.zip vs.toArray) → failedOf st = none →
      wpAny (model prog w) A (ksk_tail a false e1 (.ref kS) st) P E s := fun st p1 p2 p3 p4 => by
    have z := sort_out (rev := false) (keys := keys) (items := vs.toArray) (xs := arrOf st) KO p1 p2 p3
    have z2 : (arrOf st).map (·.2) = (sortVals (dataKind s.heap (kz.map PyData.str)) false keys.toList vs).toArray := by
      have y := congrArg List.toArray z
      rw [Array.toArray_toList] at y
      exact y
    exact tail_at kA kK ne (by omega) (by rw [O.length hl]; exact hz) p4 z2 fun h' c q1 q2 => h h' c _ q1 q2 O
  have zs : (keys.zip vs.toArray).size = vs.length := by rw [Array.size_zip, ks', List.size_toArray, Nat.min_self]
  unfold ksk_end
  dsimp only
  simp only [Bool.false_eq_true, if_false]
  by_cases c : vs.toArray.size < 2
  · rw [if_pos c, if_pos c]
    refine wpAny_bind (wpAny_pure ?_)
    rw [StateT.run_pure]
    refine wpAny_bind (wpAny_pure ?_)
    refine fin (SortSt.mk' general' (keys.zip vs.toArray) #[] 7 none) (Array.Perm.refl _) (fun i j i1 i2 => ?_) (Stable.refl _) rfl
    rw [List.size_toArray] at c
    rw [zs] at i2
    have : i = j := by omega
    subst this
    exact KeyOrd.kle_refl _
  · rw [if_neg c, if_neg c]
    rw [List.size_toArray] at c
    have L3 : ∀ {Q : SortKind → Shared → Prop}, Q kd s → wpAny (model prog w) A (keyKind' keys) Q E s := fun {Q} q => by
      have z := L2 (by omega) E (Q := Q) q
      rw [Array.toArray_toList] at z
      exact z
    refine wpAny_bind (L3 ?_)
    refine wpAny_bind (wpAny_mono (H.wpS_sortRunsSt (st := SortSt.mk' kd (keys.zip vs.toArray) #[] 7 none) (Q := fun _ st => failedOf st = none ∧ (arrOf st).Perm (keys.zip vs.toArray) ∧ SortedToK (dataKind s.heap (kz.map PyData.str)) (arrOf st) (keys.zip vs.toArray).size ∧ Stable (dataKind s.heap (kz.map PyData.str)) (arrOf st) (keys.zip vs.toArray))
      L1 KO ⟨Array.Perm.refl _, rfl, rfl⟩ rfl (Stable.refl _) (by omega) fun st p1 p2 p3 p4 => ⟨p2, p1, p3, p4⟩) ?_ fun _ _ z => z)
    rintro ⟨⟨⟩, st⟩ s' ⟨rfl, p1, p2, p3, p4⟩
    exact fin st p2 p3 p4 p1
end
end KyS

set_option Elab.async false
set_option linter.all false
set_option maxRecDepth 100000
set_option maxHeartbeats 1000000
namespace KyS
open PySem PySem.W PySem.Calls PyProof.Rows
theorem Strs.snoc {k : Str} {t : Tok} : ∀ {vs : List Value} {ks : List Str}, Strs vs ks → Strs (vs ++ [.str k t]) (ks ++ [k])
  | _, _, .nil => .cons ⟨t, rfl⟩ .nil
  | _, _, .cons h r => .cons h (Strs.snoc r)
/-- what f gives of an item -/
def Turns (prog : Program) (w : World) (A : Around) (s : Shared) (a : Addr) (f : Value) (vs : List Value) (kz : List Str) : Prop :=
  ∀ (i : Nat) (v : Value) (k : Str), vs[i]? = some v → kz[i]? = some k → ∀ (h : Heap) (tk : Nat), But a s.heap h →
    wpAny (model prog w) A (call f [v]) (fun r s2 => ∃ t h' tk', r = .str k t ∧ s2 = { s with heap := h', toks := tk' } ∧ ∀ b o, h.get? b = some o → h'.get? b = some o) (fun _ _ => False) { s with heap := h, toks := tk }
section
variable {prog : Program} {w : World} {A : Around} {E : Value → Shared → Prop} {s s0 : Shared} {a kS : Addr} {vs : List Value} {kz : List Str} {e1 : Nat} {f : Value} {P : PySem.Fin → Shared → Prop}
theorem rest_at (K : ∀ b o, b ≠ a → s0.heap.get? b = some o → b ≠ kS ∧ s.heap.get? b = some o) (es : s = { s0 with heap := s.heap, toks := s.toks }) (kA : s.heap.get? a = some (seqObj "list" #[] e1)) (kK : s.heap.get? kS = some (seqObj "list" #[] 0)) (ne : kS ≠ a) (hl : kz.length = vs.length) (hz : vs.length ≤ sizeLine) (hu : A.units + 2 < cLine) (T : Turns prog w A s0 a f vs kz)
    (h : ∀ h' tk c out, But a s0.heap h' → h'.get? a = some (seqObj "list" (List.toArray out) c) → Out kz vs out → P (.done (.ret .none)) { s0 with heap := h', toks := tk }) :
    wpAny (model prog w) A (ksk_rest a f false vs.toArray e1 (.ref kS)) P E s := by
  rw [es]
  unfold ksk_rest
  refine wpAny_bind (wpAny_rule ?_)
  first
    | rw [List.forIn_toArray]
    | (rw [← Array.forIn_toList]; simp only [List.toList_toArray])
  refine wpAny_bind (ksk_fold (fun i s' => ∃ h' tk kA' e', s' = { s0 with heap := h', toks := tk } ∧ But a s0.heap h' ∧ (∀ b o, b ≠ a → s0.heap.get? b = some o → b ≠ kS) ∧ h'.get? a = some (seqObj "list" #[] e1) ∧ h'.get? kS = some (seqObj "list" kA' e') ∧ Strs kA'.toList (kz.take i)) vs 0 _
    ⟨s.heap, s.toks, #[], 0, rfl, fun b o n q => (K b o n q).2, fun b o n q => (K b o n q).1, kA, kK, by rw [List.take_zero]; exact .nil⟩ ?step ?done)
  case step =>
    rintro j x s' hx ⟨h', tk, kA', e', rfl, k1, k2, k3, k4, k5⟩
    rw [Nat.zero_add] at k5 ⊢
    have hj : j < vs.length := (List.getElem?_eq_some_iff.mp hx).1
    obtain ⟨k, hk⟩ : ∃ k, kz[j]? = some k := ⟨_, List.getElem?_eq_getElem (by omega)⟩
    have z : kA'.size ≤ vs.length := by
      have y := k5.length
      rw [Array.length_toList, List.length_take] at y
      omega
    refine wpAny_bind (wpAny_attempt (wpAny_mono (T j x k hx hk h' tk k1) (fun v s2 hv => ?_) fun _ _ y => y.elim))
    obtain ⟨t, g, tk2, rfl, rfl, kg⟩ := hv
    dsimp only
    have gK := kg _ _ k4
    obtain ⟨c2, gk2⟩ : ∃ c2, (g.update kS (Obj.mapSeq (·.push (.str k t)))).get? kS = some (seqObj "list" (kA'.push (.str k t)) c2) := ⟨_, get?_update_seq gK (·.push (.str k t))⟩
    refine wpAny_bind (listUpdate_at gK rfl (wpAny_pure ⟨rfl, _, _, kA'.push (.str k t), c2, rfl, fun b o n q => ?_, k2, ?_, gk2, ?_⟩) (Nat.le_trans z hz) (by rw [Array.size_push]; omega))
    · rw [Heap.get?_update_ne _ _ _ _ (k2 b o n q)]
      exact kg _ _ (k1 b o n q)
    · rw [Heap.get?_update_ne _ _ _ _ (Ne.symm ne)]
      exact kg _ _ k3
    · have e3 : kz.take (j + 1) = kz.take j ++ [k] := by rw [List.take_add_one, hk]; rfl
      rw [e3, Array.toList_push]
      exact k5.snoc
  case done =>
    rintro s' ⟨h', tk, kA', e', rfl, k1, k2, k3, k4, k5⟩
    rw [Nat.zero_add, ← hl, List.take_length] at k5
    refine wpAny_bind (listItems_at k4 rfl ?_)
    exact end_at (s := { s0 with heap := h', toks := tk }) k3 k4 ne k5 hl hz hu fun h2 c out q1 q2 q3 => h h2 tk c out (fun b o n q => q1 b o n (k2 b o n q) (k1 b o n q)) q2 q3
theorem tree_at {n : Nat} (ho : s.heap.get? a = some (seqObj "list" vs.toArray n)) (hl : kz.length = vs.length) (hz : vs.length ≤ sizeLine) (hu : A.units + 2 < cLine) (T : Turns prog w A s a f vs kz)
    (h : ∀ h' tk c out, But a s.heap h' → h'.get? a = some (seqObj "list" (List.toArray out) c) → Out kz vs out → P (.done (.ret .none)) { s with heap := h', toks := tk }) :
    wpAny (model prog w) A (ksk_tree a f false) P E s := by
  obtain ⟨e1, g1⟩ : ∃ e1, (s.heap.update a (Obj.mapSeq fun _ => (#[] : Array Value))).get? a = some (seqObj "list" #[] e1) := ⟨_, get?_update_seq ho fun _ => #[]⟩
  have sz : ((s.heap.update a (Obj.mapSeq fun _ => (#[] : Array Value))).push (seqObj "tuple" vs.toArray 0)).objs.size = s.heap.objs.size + 1 := by rw [size_push', Heap.size_update]
  have la := Heap.lt_size ho
  unfold ksk_tree
  refine wpAny_bind (listItems_at ho rfl (wpAny_bind (listUpdate_at ho rfl (wpAny_bind (seqEpoch_at g1 rfl (wpAny_bind (wpAny_newTuple (wpAny_bind (wpAny_newList (wpAny_holding ?_) (Nat.zero_le _))) (by show vs.length ≤ _; exact hz))))) (by rw [List.size_toArray]; exact hz) (Nat.zero_le _))))
  refine rest_at (s0 := s) (s := { s with heap := ((s.heap.update a (Obj.mapSeq fun _ => (#[] : Array Value))).push (seqObj "tuple" vs.toArray 0)).push (seqObj "list" #[] 0) }) (fun b o n q => ⟨?_, ?_⟩) rfl (Heap.get?_push_of_some _ (Heap.get?_push_of_some _ g1)) (Heap.get?_push_size _ rfl) ?_ hl hz hu T h
  · rw [sz]
    exact Nat.ne_of_lt (Nat.lt_succ_of_lt (Heap.lt_size q))
  · refine Heap.get?_push_of_some _ (Heap.get?_push_of_some _ ?_)
    rw [Heap.get?_update_ne _ _ _ _ n]
    exact q
  · rw [sz]
    exact Nat.ne_of_gt (Nat.lt_succ_of_lt la)
/-- sorted(xs, key=f) -/
theorem sorted_at {l : Addr} {Q : Value → Shared → Prop} (hL : s.heap.IsList l vs.toArray) (hl : kz.length = vs.length) (hz : vs.length ≤ sizeLine) (hu : A.units + 8 < cLine)
    (ht : ∀ x, Builtin.«list.sort» ⟨[.ref x], [(Str.ofString "key", f)]⟩ = ksk_tree x f false)
    (T : ∀ (h : Heap) (D : Addr), (∀ b o, s.heap.get? b = some o → b ≠ D ∧ h.get? b = some o) → Turns prog w A.in1.in1 { s with heap := h } D f vs kz)
    (h : ∀ h' tk c out, (∀ b o, s.heap.get? b = some o → h'.get? b = some o) → s.heap.objs.size ≤ s.heap.objs.size + 1 → h'.get? (s.heap.objs.size + 1) = some (seqObj "list" (List.toArray out) c) → Out kz vs out → Q (.ref (s.heap.objs.size + 1)) { s with heap := h', toks := tk }) :
    wpAny (model prog w) A (call (.builtin "sorted") [.ref l] [(Str.ofString "key", f)]) Q E s := by
  refine sorted_of_sort hL hz (ksk_s1 _ _) (fun x => ksk_l1 _ _) fun E' => ?_
  rw [ht]
  have nn : ∀ b o, s.heap.get? b = some o → b ≠ s.heap.objs.size + 1 := fun b o q => Nat.ne_of_lt (Nat.lt_succ_of_lt (Heap.lt_size q))
  exact tree_at (s := { s with heap := copyHeap s.heap vs }) (copyHeap_at s.heap vs) hl hz (by show A.units + 1 + 1 + 2 < cLine; omega) (T _ _ fun b o q => ⟨nn b o q, copyHeap_old q⟩)
    fun h' tk c out k1 k2 k3 => ⟨rfl, h h' tk c out (fun b o q => k1 b o (nn b o q) (copyHeap_old q)) (Nat.le_succ _) k2 k3⟩
end
end KyS

set_option Elab.async false
set_option linter.all false
set_option maxRecDepth 100000
set_option maxHeartbeats 1000000
namespace KyS
open PySem PySem.Spec PyProof.Rows L2
/-- str(x) is k -/
inductive KeyV (H : Hp) : V → Str → Prop
  | str (x : Str) : KeyV H (.str x) x
  | tup {a : Addr} {xs : List V} {ds : List PyData} : H a = some (.tup xs) → DqAll a H xs ds → (PyData.tuple ds).showable = true → (PyData.tuple ds).depth ≤ 60 → (PyData.tuple ds).shown.length ≤ 100000 → KeyV H (.ref a) (PyData.tuple ds).shown
/-- xs, sorted by their texts -/
def byKey (key : V → Str) (xs : List V) : List V := xs.mergeSort (PySem.W.dataLe false fun x => PyData.str (key x))
def rSortK (K : PySem.W.Frag) : List V → List V → Hp → VK → Prop := fun vs zs H Q => ∃ (a : Addr) (xs : List V) (key : V → Str), vs = [.ref a] ∧ zs = [.ty "str"] ∧ SqL K H a xs ∧ (∀ x ∈ xs, KeyV H x (key x)) ∧ ∀ p, H p = none → Q (.ref p) (upd H p (.lst (byKey key xs)))
section
variable {X : Cx}
theorem each_of_vals : ∀ {xs : List V} {us : List Value}, Vals xs us → PySem.W.EachIs (fun u x => RelV x u) us xs
  | _, _, .nil => .nil
  | _, _, .cons h t => .cons h (each_of_vals t)
theorem vals_of_each : ∀ {xs : List V} {us : List Value}, PySem.W.EachIs (fun u x => RelV x u) us xs → Vals xs us
  | _, _, .nil => .nil
  | _, _, .cons h t => .cons h (vals_of_each t)
theorem each_get {α β : Type} {R : α → β → Prop} : ∀ {as : List α} {bs : List β}, PySem.W.EachIs R as bs → ∀ {i : Nat} {a : α} {b : β}, as[i]? = some a → bs[i]? = some b → R a b
  | _, _, .nil, i, a, b, h, _ => by simp at h
  | _, _, .cons r t, 0, a, b, h, k => by
    cases h
    cases k
    exact r
  | _, _, .cons r t, i + 1, a, b, h, k => each_get t (by simpa using h) (by simpa using k)
theorem cr_sortedStr (hg : X.A.guards = some []) (hu : X.A.units + 80 < cLine) : CallRK X (.builtin "sorted") [Str.ofString "key"] (rSortK X.K) := by
  intro pins s σ H vs zs us ws Q I r rz h
  obtain ⟨a, xs, key, rfl, rfl, hs, hk, q⟩ := h
  obtain rfl := Vals.ref1 r
  obtain ⟨w1, rfl, e1⟩ := vals1 rz
  obtain rfl : w1 = Value.type "str" := e1
  obtain ⟨its, rv, hl, hz⟩ := I.list hs
  have ev := each_of_vals rv
  refine sorted_at (vs := its) (kz := xs.map key) hl.isList (by rw [List.length_map]; exact rv.length) (by rw [← rv.length]; exact hz) (by omega) (fun _ => rfl) (fun h D k i v k0 hv hk0 h1 tk hb => ?_) fun h' tk c out k1 _ k2 k3 => ?_
  · rw [List.getElem?_map] at hk0
    obtain ⟨x, hx, rfl⟩ := Option.map_eq_some_iff.mp hk0
    have rx : RelV x v := each_get ev hv hx
    have kp : ∀ b o, s.heap.get? b = some o → h1.get? b = some o := fun b o z => hb b o (k b o z).1 (k b o z).2
    have kx := hk x (List.mem_of_getElem? hx)
    generalize key x = y at kx
    cases kx with
    | str x =>
      obtain ⟨t, rfl⟩ := rx
      exact PySem.P.str_of_str ⟨t, h1, tk, rfl, rfl, fun _ _ z => z⟩
    | @tup b ys ds h2 h3 h4 h5 h6 =>
      cases rx
      obtain ⟨_, us, rus, o, g, cl, n, dt⟩ := (show ObjOk X.prog X.w H s.heap _ (.tup _) from I.hok _ _ h2)
      obtain ⟨as, rd, nm⟩ := DqAll.reads I ds _ us h3 rus
      have R : Reads s.heap (.ref b) (.tuple ds) as := Reads.tuple g cl dt (by simpa using rd)
      exact str_of_reads R h4 (fun _ => nm) hg (by show X.A.units + 1 + 1 + _ < cLine; omega) kp (fun h2 u tk2 k5 => ⟨u, h2, tk2, rfl, rfl, k5⟩) (by rw [sizeLine_eq]; omega)
  · have ee := k3.each key ev
    have vv : Vals (byKey key xs) out := vals_of_each ee
    have lz : (byKey key xs).length ≤ sizeLine := by
      unfold byKey
      rw [(List.mergeSort_perm _ _).length_eq]
      exact hz
    exact ⟨.ref _, upd H (s.heap.objs.size + 1) (.lst (byKey key xs)), I.laid (t' := tk) k1 (Nat.le_succ _) ⟨lz, out, c, vv, k2⟩, rfl, q _ (I.hok.fresh (Nat.le_succ _))⟩
end
end KyS

set_option Elab.async false
set_option linter.all false
set_option maxRecDepth 100000
set_option maxHeartbeats 2000000
/-! ascending, unlike, joined. -/
namespace Tb
open PySem PySem.Spec PyProof.Rows L2 EvP Cm Fk DtE KyS XG
abbrev sAsc : Stmt := top 21
abbrev sUnlike : Stmt := top 32
abbrev sJoined : Stmt := top 33
abbrev NU : List Str := ["names", "name"]
theorem scAsc : FnScope ["values"] ["values"] (defScope sAsc) := ⟨rfl, rfl, rfl, by decide +kernel, rfl, by decide +kernel, by decide +kernel⟩
theorem scUnlike : FnScope NU ["names"] (defScope sUnlike) := ⟨rfl, rfl, rfl, by decide +kernel, rfl, by decide +kernel, by decide +kernel⟩
theorem scJoined : FnScope ["one", "other"] ["one", "other"] (defScope sJoined) := ⟨rfl, rfl, rfl, by decide +kernel, rfl, by decide +kernel, by decide +kernel⟩
/-- the key of a text -/
def keyS : V → Str
  | .str x => x
  | _ => ⟨#[]⟩
theorem byKey_strs (ns : List Str) : byKey keyS (ns.map V.str) = (srt ns).map V.str := by
  unfold byKey srt
  rw [PySem.W.dataLe_str]
  exact (PySem.W.sort_maps (r := fun a b : Str => decide (a.cps.toList ≤ b.cps.toList)) (s := fun a b : V => decide ((keyS a).cps.toList ≤ (keyS b).cps.toList)) V.str fun _ _ _ _ => rfl).symm
theorem KeyV.strs {H : Hp} (ns : List Str) : ∀ x ∈ ns.map V.str, KeyV H x (keyS x) := fun x hx => by
  obtain ⟨n, _, rfl⟩ := List.mem_map.mp hx
  exact .str n
def spAsc (K : PySem.W.Frag) : Sp := fun vs H Q _ => ∃ (a : Addr) (xs : List V) (key : V → Str), vs = [.ref a] ∧ SqL K H a xs ∧ (∀ x ∈ xs, KeyV H x (key x)) ∧ ∀ p H', Ex H H' → H p = none → H' p = some (.tup (byKey key xs)) → Q (.ref p) H'
theorem spAsc_len {K : PySem.W.Frag} : ∀ vs H Q E, spAsc K vs H Q E → vs.length = (["values"] : List Str).length := fun vs H Q E h => by
  obtain ⟨a, xs, key, rfl, _⟩ := h
  rfl
/-- each name once, as it comes first -/
def firsts (ns : List Str) : List Str := ns.foldl (fun acc n => if n ∈ acc then acc else acc ++ [n]) []
def trues (ns : List Str) : List (Key × V) := ns.map fun n => (Sum.inr n, V.bl true)
theorem trues_put (acc : List Str) (n : Str) : putK (trues acc) (Sum.inr n) (.bl true) = trues (if n ∈ acc then acc else acc ++ [n]) := by
  unfold putK trues
  have e : ((acc.map fun n => ((Sum.inr n : Key), V.bl true)).any fun kv => decide (kv.1 = Sum.inr n)) = decide (n ∈ acc) := by
    rw [Bool.eq_iff_iff, List.any_eq_true, decide_eq_true_eq]
    constructor
    · rintro ⟨p, hp, e⟩
      obtain ⟨m, hm, rfl⟩ := List.mem_map.mp hp
      rw [← Sum.inr.inj (of_decide_eq_true e)]
      exact hm
    · intro h
      exact ⟨_, List.mem_map.mpr ⟨n, h, rfl⟩, decide_eq_true rfl⟩
  rw [e]
  by_cases c : n ∈ acc
  · rw [decide_eq_true c, if_pos rfl, if_pos c, List.map_map]
    refine List.map_congr_left fun m _ => ?_
    show (if Sum.inr m = (Sum.inr n : Key) then _ else _) = _
    split <;> rfl
  · rw [decide_eq_false c, if_neg Bool.false_ne_true, if_neg c, List.map_append]
    rfl
theorem firsts_take {ns : List Str} {j : Nat} {n : Str} (h : ns[j]? = some n) : firsts (ns.take (j + 1)) = if n ∈ firsts (ns.take j) then firsts (ns.take j) else firsts (ns.take j) ++ [n] := by
  unfold firsts
  rw [List.take_add_one, h, List.foldl_append]
  rfl
theorem firsts_len : ∀ (ns acc : List Str), (ns.foldl (fun acc n => if n ∈ acc then acc else acc ++ [n]) acc).length ≤ acc.length + ns.length
  | [], acc => by simp
  | n :: ns, acc => by
    rw [List.foldl_cons]
    refine Nat.le_trans (firsts_len ns _) ?_
    split
    · rw [List.length_cons]
      omega
    · rw [List.length_append, List.length_singleton, List.length_cons]
      omega
def spUnlike (K : PySem.W.Frag) : Sp := fun vs H Q _ => ∃ (a : Addr) (ns : List Str), vs = [.ref a] ∧ SqL K H a (ns.map V.str) ∧ ns.length ≤ 1000 ∧ ∀ p H', Ex H H' → H p = none → H' p = some (.tup ((srt (firsts ns)).map V.str)) → Q (.ref p) H'
theorem spUnlike_len {K : PySem.W.Frag} : ∀ vs H Q E, spUnlike K vs H Q E → vs.length = (["names"] : List Str).length := fun vs H Q E h => by
  obtain ⟨a, ns, rfl, _⟩ := h
  rfl
def spJoined (K : PySem.W.Frag) : Sp := fun vs H Q _ => ∃ (a b : Addr) (ns ms : List Str), vs = [.ref a, .ref b] ∧ SqA K H a (ns.map V.str) ∧ SqA K H b (ms.map V.str) ∧ ns.length + ms.length ≤ 1000 ∧ ∀ p H', Ex H H' → H p = none → H' p = some (.tup ((srt (firsts (ns ++ ms))).map V.str)) → Q (.ref p) H'
theorem spJoined_len {K : PySem.W.Frag} : ∀ vs H Q E, spJoined K vs H Q E → vs.length = (["one", "other"] : List Str).length := fun vs H Q E h => by
  obtain ⟨a, b, ns, ms, rfl, _⟩ := h
  rfl
theorem pe_callG {X : Cx} {x : Str} {f : Addr} {fd : FuncData} {k : Nat} {ps : List Str} {sp : Sp} {e : Expr} {es : List Expr} {t : TA} {p pos : Pos} (F : XG.FnG X.prog X.w X.K X.mg X.base CX0 k f fd ps sp) (len : ∀ vs H Q E, sp vs H Q E → vs.length = ps.length) (gd : X.A.guards = some []) (hr : Room k X.A) (hg : Gl X x) (hm : X.mg x = some (.ref f)) (hk : PySem.W.keepIn X.K (.ref f) = true) (hb : Binds X.K fd ps [])
    (ha : PA X (e :: es) t) (hdb : (x == ("__debug__" : Str)) = false := by decide) (he : starEach (e :: es) X.env = (false, eval e X.env) :: starEach es X.env := by rfl) (hpl : (backTo pos (starEach es X.env)).any (·.1) = false := by rfl) :
    PE X (.Call (.Name x p) (e :: es) [] pos) (tCall sp [] E0 t) := by
  refine ⟨fun pins s σ H Q I h => wpAny_Call_Name_kw (ld_glob I hg hm ?_ hdb)⟩
  refine PySem.W.callWith_K (h₀ := X.base) I.ok.mod.kin hk (thn (ha.run pos pins s σ H _ I h) fun us s1 ⟨vs, H1, I1, r, q⟩ => ⟨I1.kIn, ?_⟩) he hpl
  replace q : sp vs H1 Q E0 := by
    have z : sp (vs ++ []) H1 Q E0 := q
    rw [List.append_nil] at z
    exact z
  have n : (us ++ []).length = ps.length := by rw [List.append_nil, ← r.length]; exact len _ _ _ _ q
  refine wpAny_call (codeAny_mono (F X.A X.stack s1 H1 ⟨us, []⟩ (us ++ []) vs Q E0 gd hr I1.env0 (hb s1 us I1.kIn n) (by rw [List.append_nil]; exact r) q) fun r' s' hq => ?_)
  cases r' with
  | error e => exact (show False from hq).elim
  | ok fl =>
    cases fl with
    | ret u => exact I1.after hq
    | next => exact False.elim hq
    | brk => exact False.elim hq
    | cont => exact False.elim hq
section
variable {P : Program} {w : World} {K : PySem.W.Frag} {mg : Str → Option Value} {base : Heap} {f fA fU : Addr} {fd fdA fdU : FuncData}
theorem ok_asc (F : Fun K "ascending" "ascending" sAsc f fd) (T : Blt mg) (T2 : Blt2 mg) : FnG P w K mg base CX0 1 f fd ["values"] (spAsc K) := by
  refine Fun.okG F scAsc spAsc_len fun cdv A outer s H vs Q E gd hr h => ?_
  obtain ⟨a, xs, key, rfl, hs, hk, q⟩ := h
  have hu := hr.un
  refine ⟨_, pss_one (ps_ret (pe_tupleOf (by rfl) T2.tuple (pe_callBK (cr_sortedStr gd (by show A.units + 3 + 80 < cLine; have : A.units + 3 + 16 * 0 + 200 < cLine := hu; omega)) (by rfl) T2.sorted (by decide +kernel) (pa_cons (pv 0) pa_nil) (pk_cons (pe_bltn (v := .ty "str") (by rfl) T.str (by decide +kernel) rfl) pk_nil)))), ?_⟩
  refine ⟨_, rfl, a, xs, key, rfl, rfl, hs, hk, fun p hp => .inl ⟨p, _, rfl, SqL.of upd_same, fun p2 hp2 => q p2 _ ((Ex.new hp).trans (Ex.new hp2)) ((Ex.new hp).back hp2) upd_same⟩⟩
theorem ok_unlike (F : Fun K "unlike" "unlike" sUnlike f fd) (T : Blt mg) (R : BltR mg) (GA : FnG P w K mg base CX0 1 fA fdA ["values"] (spAsc K)) (bA : Binds K fdA ["values"] []) (gA : mg "ascending" = some (.ref fA)) (kA : PySem.W.keepIn K (.ref fA) = true) :
    FnG P w K mg base CX0 2 f fd ["names"] (spUnlike K) := by
  have nd := scUnlike.nd
  refine Fun.okG F scUnlike spUnlike_len fun cdv A outer s H vs Q E gd hr h => ?_
  obtain ⟨a, ns, rfl, hs, few, q⟩ := h
  refine ⟨_, pss_one (ps_ret (pe_callG GA spAsc_len gd hr (by rfl) gA kA bA (pa_cons (pe_callTy (T := "list") (call_listD rfl) (by rfl) R.list (by decide +kernel) (pa_cons
    (pe_dc (own := [("name", 1)]) (g := gName 1) (tt := tYes) (tk := tVar 1) (tv := tC (.bl true)) rfl nd (pi_list (pv 0)) (blkOk_by (N := NU) (sc := defScope sUnlike) (by decide +kernel))
      (fun _ _ _ _ _ => pg_name (i := 1) nd rfl (Or.inl rfl)) (fun _ _ _ _ _ => pts_nil) (fun _ _ _ _ _ => pv 1) (fun _ _ _ _ _ => pe_bl)) pa_nil)) pa_nil))), ?_⟩
  refine ⟨_, rfl, a, rfl, ⟨_, hs⟩, fun D hD => ?_⟩
  have wl := walk_list (K := K) (a := a) (xs := ns.map V.str)
  rw [List.length_map] at wl
  have lf : ∀ n, (trues (firsts (ns.take n))).length ≤ 1000 := fun n => by
    have l := firsts_len (ns.take n) []
    unfold trues firsts
    rw [List.length_map]
    rw [List.length_take, List.length_nil] at l
    omega
  refine ⟨fun n m H' => m = ns.length - n ∧ n ≤ ns.length ∧ H' D = some (.dK (trues (firsts (ns.take n)))) ∧ Ex H H', ⟨ns.length, by simp, Nat.zero_le _, by rw [List.take_zero]; exact upd_same, Ex.new hD⟩, ?_⟩
  rintro n m H' ⟨rfl, hn, a1, a2⟩
  by_cases lt : n < ns.length
  · refine .inr ⟨wl.goes n H' lt (SqL.keep a2 hs), fun H3 => H3 D = some (.dK (trues (firsts (ns.take (n + 1))))) ∧ Ex H H3, fun H3 p => ⟨ns.length - (n + 1), by omega, rfl, lt, p⟩, fun x H3 y => ?_⟩
    obtain ⟨rfl, hx⟩ := wl.yields n H' x H3 lt (SqL.keep a2 hs) y
    rw [List.getElem?_map] at hx
    obtain ⟨nm, hnm, rfl⟩ := Option.map_eq_some_iff.mp hx
    refine ⟨rfl, ?_⟩
    show tYes _ H3 _
    unfold tYes
    dsimp only
    rw [if_pos rfl]
    refine ⟨_, rfl, _, Sum.inr nm, rfl, a1, ?_, ?_, fun b o hb => ?_⟩
    · rw [sizeLine_eq]
      have := lf n
      omega
    · rw [upd_same, trues_put, ← firsts_take hnm]
    · rw [upd_ne (ne_of_none hb hD)]
      exact a2 _ _ hb
  · have e : n = ns.length := by omega
    subst e
    rw [List.take_length] at a1
    refine .inl ⟨wl.stops H' (SqL.keep a2 hs), D, _, rfl, .inl a1, fun p hp => ?_⟩
    have ev : (trues (firsts ns)).map (fun kv => kV kv.1) = (firsts ns).map V.str := by
      unfold trues
      rw [List.map_map]
      rfl
    have e2 := a2.trans (Ex.new (o := .lst ((trues (firsts ns)).map fun kv => kV kv.1)) hp)
    refine ⟨p, (firsts ns).map V.str, keyS, rfl, SqL.of (by rw [upd_same, ev]), KeyV.strs _, fun p2 H2 e3 np h2 => q p2 H2 (e2.trans e3) (e2.back np) ?_⟩
    rw [h2, byKey_strs]
theorem ok_joined (F : Fun K "joined" "joined" sJoined f fd) (GU : FnG P w K mg base CX0 2 fU fdU ["names"] (spUnlike K)) (bU : Binds K fdU ["names"] []) (gU : mg "unlike" = some (.ref fU)) (kU : PySem.W.keepIn K (.ref fU) = true) :
    FnG P w K mg base CX0 3 f fd ["one", "other"] (spJoined K) := by
  refine Fun.okG F scJoined spJoined_len fun cdv A outer s H vs Q E gd hr h => ?_
  obtain ⟨a, b, ns, ms, rfl, ha, hb, few, q⟩ := h
  refine ⟨_, pss_one (ps_ret (pe_callG GU spUnlike_len gd hr (by rfl) gU kU bU (pa_cons (pe_lst (StX.pa_star (pv 0) (StX.pa_star (pv 1) pa_nil))) pa_nil))), ?_⟩
  refine ⟨_, rfl, a, _, rfl, ha.symm, _, rfl, b, _, rfl, hb.symm, ?_, fun p hp => ⟨p, ns ++ ms, rfl, SqL.of (by rw [upd_same, List.map_append, List.append_nil]), by rw [List.length_append]; exact few, fun p2 H2 e2 np h2 => q p2 H2 ((Ex.new hp).trans e2) ((Ex.new hp).back np) h2⟩⟩
  rw [sizeLine_eq]
  simp only [List.length_append, List.length_map, List.length_nil]
  omega
end
end Tb

set_option Elab.async false
set_option linter.all false
set_option maxRecDepth 100000
set_option maxHeartbeats 2000000
/-! The pairs of a table, in the order of their texts. -/
namespace Tb
open PySem PySem.Spec PyProof.Rows L2 EvP Cm Fk DtE KyS XG
def toD : Key → PyData
  | .inl i => .int i
  | .inr x => .str x
def dOf : V → PyData
  | .str x => .str x
  | .int i => .int i
  | _ => .none
theorem dOf_kV (k : Key) : dOf (kV k) = toD k := by cases k <;> rfl
/-- a key as Python shows it -/
def textK (k : List Key) : Str := (PyData.tuple (k.map toD)).shown
def leK : List Key → List Key → Bool := PySem.W.dataLe false fun k => PyData.str (textK k)
def sortK (ks : List (List Key)) : List (List Key) := ks.mergeSort leK
def keyH (H : Hp) : V → Str
  | .ref b => match H b with
    | some (.tup ys) => (PyData.tuple (ys.map dOf)).shown
    | _ => ⟨#[]⟩
  | _ => ⟨#[]⟩
theorem keyH_of {H : Hp} {b : Addr} {k : List Key} (h : H b = some (.tup (k.map kV))) : keyH H (.ref b) = textK k := by
  unfold keyH textK
  show (match H b with
    | some (.tup ys) => (PyData.tuple (ys.map dOf)).shown
    | _ => ⟨#[]⟩) = _
  rw [h]
  show (PyData.tuple ((k.map kV).map dOf)).shown = _
  rw [List.map_map, show dOf ∘ kV = toD from funext dOf_kV]
theorem name_small {x : Str} (h : nameB x = true) : x.length ≤ 8 ∧ ∀ c ∈ x.cps.toList, c < 16 ^ 8 := by
  unfold nameB at h
  simp only [Bool.and_eq_true, decide_eq_true_eq] at h
  refine ⟨by have := h.1.1.1.1; omega, fun c hc => ?_⟩
  have a := h.1.1.2
  unfold Txt.isascii at a
  rw [← Array.all_toList, List.all_eq_true] at a
  have := of_decide_eq_true (a c hc)
  exact Nat.lt_trans this (by decide)
theorem text_len {a x : Str} (ha : nameB a = true) (hx : nameB x = true) : (textK (key2 a x)).length ≤ 100000 := by
  obtain ⟨a1, a2⟩ := name_small ha
  obtain ⟨x1, x2⟩ := name_small hx
  have b1 := StrLaws.reprText_len a a2
  have b2 := StrLaws.reprText_len x x2
  show (("(" : Str) ++ Str.join ", " [reprText a, reprText x] ++ ((")" : String) : Str)).length ≤ 100000
  have j := join_length_add [reprText a, reprText x] (by simp)
  rw [piled_cons, piled_cons] at j
  have z : piled [] = 0 := rfl
  rw [strLen_append, strLen_append, show (("(" : String) : Str).length = 1 from rfl, show ((")" : String) : Str).length = 1 from rfl]
  omega
/-- keys that are pairs of names -/
def PairK (k : List Key) : Prop := ∃ a x, k = key2 a x ∧ NameV (.str a) ∧ NameV (.str x)
theorem keyV_of {H : Hp} {b : Addr} {k : List Key} (h : H b = some (.tup (k.map kV))) (p : PairK k) : KeyV H (.ref b) (keyH H (.ref b)) := by
  rw [keyH_of h]
  obtain ⟨a, x, rfl, ⟨y, ey, _, ha⟩, ⟨z, ez, _, hx⟩⟩ := p
  cases ey
  cases ez
  exact .tup (ds := [.str a, .str x]) h (.cons (.str a) (.cons (.str x) .nil)) rfl (by show (1 : Nat) ≤ 60; decide) (text_len ha hx)
theorem all2_keys {H : Hp} : ∀ {l : List (List Key × Addr)}, (∀ p ∈ l, H p.2 = some (.tup (p.1.map kV))) → All2 H ((l.map (·.1)).map fun k => tupV (k.map kV)) (l.map fun p => V.ref p.2)
  | [], _ => .nil
  | p :: l, h => .cons ⟨p.2, rfl, h p (.head _)⟩ (all2_keys fun q hq => h q (.tail _ hq))
theorem zip_keys {H : Hp} : ∀ {kvs : List (List Key × V)} {bs : List Addr}, IsKeys H kvs bs → (∀ p ∈ (kvs.map (·.1)).zip bs, H p.2 = some (.tup (p.1.map kV))) ∧ ((kvs.map (·.1)).zip bs).map (·.1) = kvs.map (·.1) ∧ ((kvs.map (·.1)).zip bs).map (fun p => V.ref p.2) = bs.map V.ref
  | _, _, .nil => ⟨(fun p hp => by cases hp), rfl, rfl⟩
  | _, _, .cons h t => by
    obtain ⟨h1, h2, h3⟩ := zip_keys t
    refine ⟨fun p hp => ?_, ?_, ?_⟩
    · rcases List.mem_cons.mp hp with rfl | hp
      · exact h
      · exact h1 p hp
    · show _ :: _ = _ :: _
      exact congrArg _ h2
    · show _ :: _ = _ :: _
      exact congrArg _ h3
theorem asc_pairs {H : Hp} {r : TRow} {bs : List Addr} (h : IsKeys H (tents r) bs) (p : ∀ t ∈ r, PairK t.1) : (∀ x ∈ bs.map V.ref, KeyV H x (keyH H x)) ∧ All2 H ((sortK (r.map (·.1))).map fun k => tupV (k.map kV)) (byKey (keyH H) (bs.map V.ref)) := by
  obtain ⟨h1, h2, h3⟩ := zip_keys h
  have er : (tents r).map (·.1) = r.map (·.1) := by
    unfold tents
    rw [List.map_map]
    rfl
  rw [er] at h1 h2 h3
  generalize (r.map (·.1)).zip bs = L at h1 h2 h3
  rw [← h3, ← h2]
  refine ⟨fun x hx => ?_, ?_⟩
  · obtain ⟨q, hq, rfl⟩ := List.mem_map.mp hx
    refine keyV_of (h1 q hq) ?_
    have m : q.1 ∈ r.map (·.1) := by
      rw [← h2]
      exact List.mem_map.mpr ⟨q, hq, rfl⟩
    obtain ⟨t, ht, e⟩ := List.mem_map.mp m
    rw [← e]
    exact p t ht
  · have e1 : byKey (keyH H) (L.map fun p => V.ref p.2) = (L.mergeSort fun p q => leK p.1 q.1).map fun p => V.ref p.2 := by
      refine (PySem.W.sort_maps (fun p : List Key × Addr => V.ref p.2) fun a ha b hb => ?_).symm
      unfold leK
      rw [PySem.W.dataLe_str, PySem.W.dataLe_str]
      show decide ((textK a.1).cps.toList ≤ (textK b.1).cps.toList) = decide ((keyH H (V.ref a.2)).cps.toList ≤ (keyH H (V.ref b.2)).cps.toList)
      rw [keyH_of (h1 a ha), keyH_of (h1 b hb)]
    have e2 : sortK (L.map (·.1)) = (L.mergeSort fun p q => leK p.1 q.1).map (·.1) := (PySem.W.sort_maps (fun p : List Key × Addr => p.1) fun _ _ _ _ => rfl).symm
    rw [e1, e2]
    exact all2_keys fun q hq => h1 q ((List.mergeSort_perm _ _).mem_iff.mp hq)
end Tb

set_option Elab.async false
set_option linter.all false
set_option maxRecDepth 100000
set_option maxHeartbeats 2000000
/-! Names have lower letters only, so pairs go in the order of their texts as they go by source, then by use. -/
namespace Tb
open PySem PySem.Spec PyProof.Rows L2 EvP Cm Fk DtE KyS XG
def Low (l : List Nat) : Prop := ∀ c ∈ l, 97 ≤ c ∧ c ≤ 122
theorem low_char : ∀ c < 128, Unicode.isAlpha c = true → (Unicode.isUpper c || Unicode.isTitle c) = false → 97 ≤ c ∧ c ≤ 122 := by decide +kernel
theorem low_of {x : Str} (h : nameB x = true) : Low x.cps.toList := by
  intro c hc
  unfold nameB at h
  simp only [Bool.and_eq_true] at h
  have a := h.1.1.2
  have b := h.1.2
  have d := h.2
  unfold Txt.isascii at a
  unfold Txt.isalpha at b
  unfold Txt.islower at d
  rw [← Array.all_toList, List.all_eq_true] at a
  rw [Bool.and_eq_true, ← Array.all_toList, List.all_eq_true] at b
  rw [Bool.and_eq_true, Bool.not_eq_true', ← Array.any_toList, ← Array.any_toList, List.any_eq_false] at d
  exact low_char c (of_decide_eq_true (a c hc)) (b.2 c hc) (by
    have := d.2 c hc
    cases e : (Unicode.isUpper c || Unicode.isTitle c)
    · rfl
    · exact absurd e this)
theorem lt_low : ∀ {a b : List Nat}, Low a → Low b → a < b → ∀ r s : List Nat, a ++ 39 :: r < b ++ 39 :: s
  | [], [], _, _, h, _, _ => absurd h (List.lt_irrefl _)
  | [], c :: b, _, hb, _, r, s => by
    have := hb c (.head _)
    rw [List.nil_append, List.cons_append, List.cons_lt_cons_iff]
    exact .inl (by omega)
  | c :: a, [], _, _, h, _, _ => absurd h (List.not_lt_nil _)
  | c :: a, d :: b, ha, hb, h, r, s => by
    rw [List.cons_append, List.cons_append, List.cons_lt_cons_iff]
    rw [List.cons_lt_cons_iff] at h
    exact h.imp id fun h => ⟨h.1, lt_low (fun x hx => ha x (.tail _ hx)) (fun x hx => hb x (.tail _ hx)) h.2 r s⟩
theorem lt_app : ∀ (a : List Nat) {p q : List Nat}, p < q → a ++ p < a ++ q
  | [], _, _, h => h
  | c :: a, p, q, h => by
    rw [List.cons_append, List.cons_append, List.cons_lt_cons_iff]
    exact .inr ⟨rfl, lt_app a h⟩
/-- the text of a pair -/
def tx (a x : List Nat) : List Nat := [40, 39] ++ (a ++ 39 :: ([44, 32, 39] ++ (x ++ 39 :: [41])))
theorem tx_lt1 {a b x y : List Nat} (ha : Low a) (hb : Low b) (h : a < b) : tx a x < tx b y := lt_app _ (lt_low ha hb h _ _)
theorem tx_lt2 {a x y : List Nat} (hx : Low x) (hy : Low y) (h : x < y) : tx a x < tx a y := lt_app _ (lt_app a (by
  rw [List.cons_lt_cons_iff]
  exact .inr ⟨rfl, lt_app _ (lt_low hx hy h _ _)⟩))
theorem repr_char : ∀ c < 123, 97 ≤ c → Builtin.Str.reprChar 39 c = [c] := by decide +kernel
theorem fold_low : ∀ (l : List Nat) (acc : Array Nat), Low l → l.foldl (fun out c => out ++ (Builtin.Str.reprChar 39 c).toArray) acc = acc ++ l.toArray
  | [], acc, _ => by simp
  | c :: l, acc, h => by
    have := h c (.head _)
    rw [List.foldl_cons, repr_char c (by omega) this.1, fold_low l _ fun x hx => h x (.tail _ hx)]
    simp
theorem repr_low {x : Str} (h : nameB x = true) : (reprText x).cps.toList = 39 :: (x.cps.toList ++ [39]) := by
  have lo := low_of h
  have q : reprQuote x = 39 := by
    unfold reprQuote
    have : x.cps.contains 39 = false := by
      cases e : x.cps.contains 39
      · rfl
      · have := Array.contains_iff_mem.mp e
        have := lo 39 (Array.mem_toList_iff.mpr this)
        omega
    rw [this]
    rfl
  unfold reprText
  rw [q]
  show ((x.cps.foldl (fun out c => out ++ (Builtin.Str.reprChar 39 c).toArray) #[39]).push 39).toList = _
  rw [← Array.foldl_toList, fold_low _ _ lo]
  simp
theorem text_key {a x : Str} (ha : nameB a = true) (hx : nameB x = true) : (textK (key2 a x)).cps.toList = tx a.cps.toList x.cps.toList := by
  show ((("(" : Str) ++ (reprText a ++ ", " ++ reprText x) ++ ((")" : String) : Str)).cps).toList = _
  show ((((#[40] : Array Nat) ++ ((reprText a).cps ++ (#[44, 32] : Array Nat) ++ (reprText x).cps)) ++ (#[41] : Array Nat))).toList = _
  simp only [Array.toList_append]
  rw [repr_low ha, repr_low hx]
  unfold tx
  simp
theorem leK_iff (k k' : List Key) : leK k k' = !decide ((textK k').cps.toList < (textK k).cps.toList) := by
  have e : leK k k' = !(decide ((textK k').cps.toList < (textK k).cps.toList) || (!decide ((textK k).cps.toList < (textK k').cps.toList) && false)) := rfl
  rw [e, Bool.and_false, Bool.or_false]
theorem leK_of {k k' : List Key} (h : (textK k).cps.toList < (textK k').cps.toList) : leK k k' = true := by
  rw [leK_iff, Bool.not_eq_true', decide_eq_false_iff_not]
  exact fun c => List.lt_irrefl _ (List.lt_trans h c)
end Tb

set_option Elab.async false
set_option linter.all false
set_option maxRecDepth 100000
set_option maxHeartbeats 4000000
namespace K06
open PySem PySem.Spec PyProof.Rows L2
def top (i : Nat) : Stmt := PySem.Challenge.pw_filledrow_k07_tables_changed.main.body.getD i (.Pass ⟨0, 0, 0, 0⟩)
abbrev sPen : Stmt := top 39
abbrev sDraw : Stmt := top 40
abbrev sPick : Stmt := top 41
/-! ### the pen -/
/-- the pen at p: its cells ns at q, how many were drawn, what is left of a great one -/
structure Pen (H : Hp) (p q : Addr) (ns : List Int) (s g : Int) : Prop where
  p : H p = some (.lst [.ref q, .int s, .int g])
  q : H q = some (.lst (ns.map V.int))
theorem Pen.ne {H : Hp} {p q : Addr} {ns : List Int} {s g : Int} (x : Pen H p q ns s g) : p ≠ q := ne_of x.p x.q (by
  intro z
  cases ns with
  | nil => cases z
  | cons a r => cases z)
/-- all stands but at p -/
def But (p : Addr) (H H' : Hp) : Prop := ∀ b o, H b = some o → b ≠ p → H' b = some o
def spPen (K : PySem.W.Frag) : Sp := fun vs H Q _ => ∃ (a : Addr) (ns : List Int), vs = [.ref a] ∧ SqL K H a (ns.map V.int) ∧ ns.length ≤ 63 ∧
  ∀ (p q : Addr) (ms : List Int) (H' : Hp), ms.length ≤ 63 → Pen H' p q ms 0 0 → (∀ b o, H b = some o → H' b = some o) → Q (.ref p) H'
def spDraw : Sp := fun vs H Q _ => ∃ (p q : Addr) (ns : List Int) (s g m : Int), vs = [.ref p, .int m] ∧ Pen H p q ns s g ∧ ns.length ≤ 63 ∧ 0 ≤ s ∧ s < 100000 ∧ 0 < m ∧ m ≤ 10 ^ 30 ∧
  ∀ (k s' g' : Int) (H' : Hp), 0 ≤ k → k < m → s ≤ s' → s' ≤ s + 1 → Pen H' p q ns s' g' → But p H H' → Q (.int k) H'
/-- the built-ins that are still themselves -/
structure Blt (mg : Str → Option Value) : Prop where
  int : mg "int" = none
  len : mg "len" = none
  abs : mg "abs" = none
  lst : mg "list" = none
section
variable {P : Program} {w : World} {K : PySem.W.Frag} {mg : Str → Option Value} {base : Heap} {f : Addr} {fd : FuncData}
theorem scPen : FnScope ["script"] ["script"] (defScope sPen) := ⟨rfl, rfl, rfl, by decide +kernel, rfl, by decide +kernel, by decide +kernel⟩
theorem ints_cut : ∀ (ns : List Int) (lo hi : Option Int), ∃ ms : List Int, cutV (ns.map V.int) lo hi = ms.map V.int ∧ ms.length ≤ ns.length := by
  intro ns lo hi
  refine ⟨(ns.drop (HT.sIx (ns.map V.int).length 0 lo)).take (HT.sIx (ns.map V.int).length (ns.map V.int).length hi - HT.sIx (ns.map V.int).length 0 lo), ?_, ?_⟩
  · unfold cutV
    rw [List.map_take, List.map_drop]
  · rw [List.length_take, List.length_drop]
    omega
theorem ok_pen (F : Fun K "_law_pen" "_law_pen" sPen f fd) (T : Blt mg) : FnOk P w K mg base CX0 1 f fd ["script"] (spPen K) := by
  refine F.ok scPen (fun vs H Q E h => ?_) (fun cdv A outer s H vs Q E hr h => ?_)
  · obtain ⟨a, ns, rfl, _⟩ := h
    rfl
  · obtain ⟨a, ns, rfl, hS, hl, k⟩ := h
    refine ⟨_, pss_one (ps_ret (pe_lst (pa_cons (pe_callTy call_list_of (by rfl) T.lst (by decide +kernel) (pa_cons (pe_slice sl_list (pv 0) po_none (po_some pe_int)) pa_nil)) (pa_cons pe_int (pa_cons pe_int pa_nil))))), ?_⟩
    obtain ⟨ms, e, hm⟩ := ints_cut ns none (some 63)
    refine ⟨_, rfl, _, rfl, a, _, rfl, hS, fun p hp => ?_⟩
    rw [e]
    refine ⟨p, _, rfl, .inl (SqL.of upd_same), fun l hl' => ⟨by show 3 ≤ sizeLine; decide, fun r hr' => ?_⟩⟩
    have nl : l ≠ p := fun z => by
      rw [z, upd_same] at hl'
      cases hl'
    have nr : r ≠ l := fun z => by
      rw [z, upd_same] at hr'
      cases hr'
    refine k r l ms _ (by omega) ⟨upd_same, by rw [upd_ne nr.symm, upd_same]⟩ fun b o z => ?_
    have z1 : (upd H p (.lst (ms.map V.int))) b = some o := by rw [upd_ne (ne_of_none z hp)]; exact z
    have z2 : (upd (upd H p (.lst (ms.map V.int))) l (.lst (ms.map V.int))) b = some o := by rw [upd_ne (ne_of_none z1 hl')]; exact z1
    rw [upd_ne (ne_of_none z2 hr')]
    exact z2
end
end K06

set_option Elab.async false
set_option linter.all false
set_option maxRecDepth 100000
set_option maxHeartbeats 4000000
namespace K06
open PySem PySem.Spec PyProof.Rows L2
theorem scDraw : FnScope ["pen", "many", "digit", "turn", "drawn", "great", "mixed"] ["pen", "many"] (defScope sDraw) := ⟨rfl, rfl, rfl, by decide +kernel, rfl, by decide +kernel, by decide +kernel⟩
theorem op_fdivP {X : Cx} : OpR X (binaryOp .FloorDiv) (rI (fun _ j => 0 < j ∧ j.natAbs.log2 < 9000) fun i j => .int (i.fdiv j)) := opI fun i j _ _ _ _ _ hc q => by
  have h1 : (0 : Int) < j := hc.1
  exact floordiv_int (by omega) q (.inl (PyProof.noPylong_of_log2 hc.2))
theorem log30 {m : Int} (h0 : 0 < m) (h1 : m ≤ 10 ^ 30) : m.natAbs.log2 < 9000 := Nat.lt_of_lt_of_le (PySem.Flt.log2_lt_of (k := 100) (by decide) (by
  have : (10 : Int) ^ 30 < 2 ^ 100 := by decide
  omega)) (by decide)
theorem fm (i : Int) {m : Int} (h : 0 < m) : 0 ≤ i.fmod m ∧ i.fmod m < m := ⟨Int.fmod_nonneg_of_pos i h, Int.fmod_lt_of_pos i h⟩
theorem dp_ints {K : PySem.W.Frag} {H : Hp} : ∀ ns : List Int, DpAll K H (ns.map V.int) (ns.map PyData.int)
  | [] => .nil
  | n :: r => .cons (.int n) (dp_ints r)
theorem lay_ints : ∀ ns : List Int, PyData.canLayAll0 (ns.map PyData.int) = true
  | [] => rfl
  | n :: r => by
    show (PyData.canLay0 (.int n) && PyData.canLayAll0 (r.map PyData.int)) = true
    rw [lay_ints r]
    rfl
theorem deep_ints : ∀ ns : List Int, PyData.depthAll (ns.map PyData.int) ≤ 1
  | [] => Nat.zero_le _
  | n :: r => by
    have := deep_ints r
    show max (PyData.depth (.int n)) (PyData.depthAll (r.map PyData.int)) ≤ 1
    have e : PyData.depth (.int n) = 0 := rfl
    omega
theorem shaped_ints (ns : List Int) : SeqAt.shaped (.list (ns.map PyData.int)) = true := by
  have h1 : PyData.canLay0 (.list (ns.map PyData.int)) = true := lay_ints ns
  have h2 : PyData.depth (.list (ns.map PyData.int)) ≤ 64 := by
    have := deep_ints ns
    show PyData.depthAll (ns.map PyData.int) + 1 ≤ 64
    omega
  unfold SeqAt.shaped
  rw [h1, decide_eq_true h2]
  rfl
theorem eqv_none (ns : List Int) : PyData.eqv (.list (ns.map PyData.int)) (.list []) = ns.isEmpty := by
  cases ns <;> rfl
section
variable {P : Program} {w : World} {K : PySem.W.Frag} {mg : Str → Option Value} {base : Heap} {f : Addr} {fd : FuncData}
theorem ok_draw (F : Fun K "_law_draw" "_law_draw" sDraw f fd) (T : Blt mg) : FnOk P w K mg base CX0 1 f fd ["pen", "many"] spDraw := by
  refine F.ok scDraw (fun vs H Q E h => ?_) (fun cdv A outer s H vs Q E hr h => ?_)
  · obtain ⟨p, q, ns, s, g, m, rfl, _⟩ := h
    rfl
  · obtain ⟨p, q, ns, s, g, m, rfl, hP, hl, hs0, hs1, hm0, hm1, k⟩ := h
    have nd := scDraw.nd
    have hu : (cxOf CX0 P w K mg base ["pen", "many", "digit", "turn", "drawn", "great", "mixed"] "_law_draw" (defScope sDraw) f cdv A outer ‹Shared› H E).nox.A.units + 64 < cLine := by
      have z := hr.un
      show (A.deeper _).units + 64 < cLine
      omega
    refine ⟨_, pss_cons (ps_if (pt_cmpR op_gt (pe_ix ix_list (pv 0) pe_int (fun _ _ => rfl)) pe_int (nomark _))
        (pss_cons (ps_set (i := 2) nd rfl (Or.inl rfl) (pe_op op_modN (pe_callTy call_int1 (by rfl) T.int (by decide +kernel) (pa_cons (pe_ix ix_list (pv 0) pe_int (fun _ _ => rfl)) pa_nil)) (pv 1)))
          (pss_cons (ps_asg (pe_op op_fdivP (pe_callTy call_int1 (by rfl) T.int (by decide +kernel) (pa_cons (pe_ix ix_list (pv 0) pe_int (fun _ _ => rfl)) pa_nil)) (pv 1)) (pg_sub (pv 0) pe_int set_list))
            (pss_one (ps_ret (pv 2))))) pss_nil)
      (pss_cons (ps_set (i := 3) nd rfl (Or.inl rfl) (pe_ix ix_list (pv 0) pe_int (fun _ _ => rfl)))
      (pss_cons (ps_asg (pe_op op_add (pv 3) pe_int) (pg_sub (pv 0) pe_int set_list))
      (pss_cons (ps_set (i := 4) nd rfl (Or.inl rfl) (pe_op op_add (pe_op op_mul pe_int (pv 3)) pe_int))
      (pss_cons (ps_if (pt_cmpR (op_neD hu) (pe_ix ix_list (pv 0) pe_int (fun _ _ => rfl)) (pe_lst pa_nil) (nomark _))
        (pss_one (ps_set (i := 4) nd rfl (Or.inl rfl) (pe_ix ix_list (pe_ix ix_list (pv 0) pe_int (fun _ _ => rfl))
          (pe_op op_modN (pe_callTy call_int1 (by rfl) T.int (by decide +kernel) (pa_cons (pv 3) pa_nil)) (pe_callB call_len_seq (by rfl) T.len PySem.boot_len (pa_cons (pe_ix ix_list (pv 0) pe_int (fun _ _ => rfl)) pa_nil))) (fun _ _ => rfl)))) pss_nil)
      (pss_cons (ps_if (PW.pt (pw_and (pt_cmpR op_lt (pv 3) (pe_callB call_len_seq (by rfl) T.len PySem.boot_len (pa_cons (pe_ix ix_list (pv 0) pe_int (fun _ _ => rfl)) pa_nil)) (nomark _))
          (pw_and1 (pt_cmpR op_ge (pe_callB call_abs (by rfl) T.abs (by decide +kernel) (pa_cons (pv 4) pa_nil)) (pe_op op_pow pe_int pe_int) (nomark _)))))
        (pss_cons (ps_set (i := 5) nd rfl (Or.inl rfl) (pe_op op_add (pe_op op_mul pe_int (pe_op op_sub (pe_callB call_abs (by rfl) T.abs (by decide +kernel) (pa_cons (pv 4) pa_nil)) (pe_op op_pow pe_int pe_int)))
            (pe_callTy call_int1 (by rfl) T.int (by decide +kernel) (pa_cons (pe_cmpR op_lt (pv 4) pe_int (nomark _)) pa_nil))))
          (pss_cons (ps_asg (pe_op op_fdivP (pe_callTy call_int1 (by rfl) T.int (by decide +kernel) (pa_cons (pv 5) pa_nil)) (pv 1)) (pg_sub (pv 0) pe_int set_list))
            (pss_one (ps_ret (pe_op op_modN (pe_callTy call_int1 (by rfl) T.int (by decide +kernel) (pa_cons (pv 5) pa_nil)) (pv 1)))))) pss_nil)
      (pss_cons (ps_set (i := 6) nd rfl (Or.inl rfl) (pe_op op_modN (pe_callTy call_int1 (by rfl) T.int (by decide +kernel) (pa_cons (pe_op op_pow (pe_op op_add (pe_op op_add (pe_op op_modN (pe_callTy call_int1 (by rfl) T.int (by decide +kernel) (pa_cons (pv 4) pa_nil)) pe_int) (pe_op op_mul pe_int (pv 3))) pe_int) pe_int) pa_nil)) pe_int))
      (pss_cons (ps_set (i := 6) nd rfl (Or.inl rfl) (pe_op op_modN (pe_callTy call_int1 (by rfl) T.int (by decide +kernel) (pa_cons (pe_op op_pow (pe_op op_add (pe_op op_add (pe_op op_mul (pv 6) (pe_op op_add (pe_op op_mul pe_int (pv 3)) pe_int)) (pe_op op_mul (pe_op op_mul pe_int (pv 3)) (pv 3))) pe_int) pe_int) pa_nil)) pe_int))
      (pss_one (ps_ret (pe_op op_modN (pe_callTy call_int1 (by rfl) T.int (by decide +kernel) (pa_cons (pe_op op_fdivN (pv 6) pe_int) pa_nil)) (pv 1))))))))))), ?_⟩
    -- if pen[2] > 0
    refine ⟨_, rfl, p, _, 2, .int g, rfl, rfl, SqL.of hP.p, rfl, g, 0, rfl, rfl, _, rfl, ?_⟩
    refine ite2 (fun c => ?_) (fun c => ?_)
    · refine ⟨_, rfl, p, _, 2, .int g, rfl, rfl, SqL.of hP.p, rfl, .inl ⟨g, rfl, _, rfl, g, m, rfl, rfl, by omega, ?_⟩⟩
      refine ⟨_, rfl, p, _, 2, .int g, rfl, rfl, SqL.of hP.p, rfl, .inl ⟨g, rfl, _, rfl, g, m, rfl, rfl, ⟨hm0, log30 hm0 hm1⟩, ?_⟩⟩
      refine ⟨_, rfl, p, _, 2, 2, rfl, rfl, hP.p, rfl, ?_⟩
      refine ⟨_, rfl, k _ s (g.fdiv m) _ (fm g hm0).1 (fm g hm0).2 (Int.le_refl _) (by omega) ⟨upd_same, ?_⟩ fun b o e hb => ?_⟩
      · rw [upd_ne hP.ne.symm]
        exact hP.q
      · rw [upd_ne hb]
        exact e
    · -- spot = pen[1]; pen[1] = spot + 1; cell = ..
      refine ⟨_, rfl, p, _, 1, .int s, rfl, rfl, SqL.of hP.p, rfl, ?_⟩
      refine ⟨_, rfl, s, 1, rfl, rfl, ?_⟩
      refine ⟨_, rfl, p, _, 1, 1, rfl, rfl, hP.p, rfl, ?_⟩
      have hP1 : Pen (upd H p (.lst [.ref q, .int (s + 1), .int g])) p q ns (s + 1) g := ⟨upd_same, by rw [upd_ne hP.ne.symm]; exact hP.q⟩
      have hB1 : But p H (upd H p (.lst [.ref q, .int (s + 1), .int g])) := fun b o e hb => by rw [upd_ne hb]; exact e
      refine ⟨_, rfl, 51773, s, rfl, rfl, .inl ⟨by decide, by decide⟩, _, _, rfl, rfl, ?_⟩
      -- if pen[0] != []
      refine ⟨_, rfl, p, _, 0, .ref q, rfl, rfl, SqL.of hP1.p, rfl, by decide, fun l hl' => ?_⟩
      have hP2 : Pen (upd (upd H p (.lst [.ref q, .int (s + 1), .int g])) l (.lst [])) p q ns (s + 1) g :=
        ⟨by rw [upd_ne (ne_of_none hP1.p hl')]; exact hP1.p, by rw [upd_ne (ne_of_none hP1.q hl')]; exact hP1.q⟩
      have hB2 : But p H (upd (upd H p (.lst [.ref q, .int (s + 1), .int g])) l (.lst [])) := fun b o e hb => by
        rw [upd_ne (ne_of_none (hB1 b o e hb) hl')]
        exact hB1 b o e hb
      refine ⟨_, _, .lst (SqL.of hP2.q) (dp_ints ns), .lst (SqL.of upd_same) .nil, shaped_ints ns, rfl, _, rfl, ?_⟩
      rw [eqv_none]
      cases ns with
      | nil =>
        refine iteF ?_
        refine ⟨_, rfl, _, rfl, p, _, 0, .ref q, rfl, rfl, SqL.of hP2.p, rfl, q, _, rfl, .inl (SqL.of hP2.q), s, _, rfl, rfl, _, rfl, ?_⟩
        have e : decide (s < (((([] : List Int).map V.int).length : Nat) : Int)) = false := decide_eq_false (by show ¬ s < 0; omega)
        rw [e]
        refine iteF (iteF ?_)
        -- mixed = ..
        refine ⟨_, rfl, .inl ⟨51773 * s + 1537, rfl, ?_⟩⟩
        refine ⟨51773 * s + 1537, 2147483543, rfl, rfl, (show (2147483543 : Int) ≠ 0 by decide), ?_⟩
        refine ⟨_, rfl, 80747, s, rfl, rfl, .inl ⟨by decide, by decide⟩, ?_⟩
        refine ⟨_, _, rfl, rfl, _, _, rfl, rfl, ?_⟩
        have b1 := fm (51773 * s + 1537) (show (0 : Int) < 2147483543 by decide)
        refine ⟨_, 5, rfl, rfl, ⟨by decide, by decide, by omega⟩, .inl ⟨_, rfl, _, 2147483647, rfl, rfl, (show (2147483647 : Int) ≠ 0 by decide), ?_⟩⟩
        have b2 := fm ((Int.fmod (51773 * s + 1537) 2147483543 + 80747 * s + 1867) ^ (5 : Int).toNat) (show (0 : Int) < 2147483647 by decide)
        obtain ⟨y, hy⟩ : ∃ y, y = Int.fmod ((Int.fmod (51773 * s + 1537) 2147483543 + 80747 * s + 1867) ^ (5 : Int).toNat) 2147483647 := ⟨_, rfl⟩
        rw [← hy] at b2
        refine ⟨_, rfl, _, rfl, 2, s, rfl, rfl, .inl ⟨by decide, by decide⟩, _, _, rfl, rfl, y, _, congrArg V.int hy.symm, rfl, .inl ⟨by omega, by omega⟩, ?_⟩
        refine ⟨_, rfl, 84653, s, rfl, rfl, .inl ⟨by decide, by decide⟩, _, rfl, _, s, rfl, rfl, .inr ⟨by omega, by omega⟩, ?_⟩
        refine ⟨_, _, rfl, rfl, _, _, rfl, rfl, ?_⟩
        have b3 : 0 ≤ y * (2 * s + 955) ∧ y * (2 * s + 955) ≤ 2147483647 * 300000 := ⟨Int.mul_nonneg b2.1 (by omega), Int.mul_le_mul (by omega) (by omega) (by omega) (by decide)⟩
        have b4 : 0 ≤ 84653 * s * s ∧ 84653 * s * s ≤ 8465300000 * 100000 := ⟨Int.mul_nonneg (by omega) hs0, Int.mul_le_mul (by omega) (by omega) hs0 (by decide)⟩
        refine ⟨_, 3, rfl, rfl, ⟨by decide, by decide, by omega⟩, .inl ⟨_, rfl, _, 2147483579, rfl, rfl, (show (2147483579 : Int) ≠ 0 by decide), ?_⟩⟩
        refine ⟨_, rfl, _, 32, rfl, rfl, ⟨by decide, by decide⟩, .inl ⟨_, rfl, _, rfl, _, m, rfl, rfl, by omega, ?_⟩⟩
        exact k _ (s + 1) g _ (fm _ hm0).1 (fm _ hm0).2 (by omega) (Int.le_refl _) hP2 hB2
      | cons n0 r =>
        refine iteT ?_
        -- cell = pen[0][int(spot) % len(pen[0])]
        refine ⟨_, rfl, p, _, 0, .ref q, rfl, rfl, SqL.of hP2.p, rfl, ?_⟩
        refine ⟨_, rfl, .inl ⟨s, rfl, _, rfl, p, _, 0, .ref q, rfl, rfl, SqL.of hP2.p, rfl, q, _, rfl, .inl (SqL.of hP2.q), s, _, rfl, rfl, ?_, ?_⟩⟩
        · rw [List.length_map, List.length_cons]
          omega
        have hn : (0 : Int) < (((((n0 :: r) : List Int).map V.int).length : Nat) : Int) := by
          rw [List.length_map, List.length_cons]
          omega
        have b0 := fm s hn
        obtain ⟨c, hc⟩ : ∃ c : Int, atI ((n0 :: r).map V.int) (s.fmod ((((n0 :: r).map V.int).length : Nat) : Int)) = some (.int c) := by
          have hj : (s.fmod ((((n0 :: r).map V.int).length : Nat) : Int)).toNat < (n0 :: r).length := by
            rw [List.length_map] at b0 ⊢
            omega
          refine ⟨(n0 :: r)[(s.fmod ((((n0 :: r).map V.int).length : Nat) : Int)).toNat]'hj, at_of (j := (s.fmod ((((n0 :: r).map V.int).length : Nat) : Int)).toNat) (by omega) ?_⟩
          rw [List.getElem?_map, List.getElem?_eq_getElem hj]
          rfl
        refine ⟨q, _, _, .int c, rfl, rfl, SqL.of hP2.q, hc, ?_⟩
        -- if spot < len(pen[0]) and abs(cell) >= 10 ** 18
        refine ⟨_, rfl, _, rfl, p, _, 0, .ref q, rfl, rfl, SqL.of hP2.p, rfl, q, _, rfl, .inl (SqL.of hP2.q), s, _, rfl, rfl, _, rfl, ?_⟩
        refine ite2 (fun c1 => ?_) (fun c1 => iteF ?_)
        · refine ⟨_, rfl, c, rfl, 10, 18, rfl, rfl, ⟨by decide, by decide, by decide⟩, _, _, rfl, rfl, _, rfl, ?_⟩
          refine ite2 (fun c2 => ?_) (fun c2 => ?_)
          · -- great
            refine ⟨_, rfl, c, rfl, 10, 18, rfl, rfl, ⟨by decide, by decide, by decide⟩, _, _, rfl, rfl, 2, _, rfl, rfl, .inl ⟨by decide, by decide⟩, ?_⟩
            refine ⟨_, rfl, c, 0, rfl, rfl, .inr ⟨_, rfl, _, _, rfl, rfl, ?_⟩⟩
            refine ⟨_, rfl, .inl ⟨_, rfl, _, rfl, _, m, rfl, rfl, ⟨hm0, log30 hm0 hm1⟩, ?_⟩⟩
            refine ⟨_, rfl, p, _, 2, 2, rfl, rfl, hP2.p, rfl, ?_⟩
            refine ⟨_, rfl, .inl ⟨_, rfl, _, rfl, _, m, rfl, rfl, by omega, ?_⟩⟩
            refine k _ (s + 1) _ _ (fm _ hm0).1 (fm _ hm0).2 (by omega) (Int.le_refl _) ⟨upd_same, ?_⟩ fun b o e hb => ?_
            · rw [upd_ne hP2.ne.symm]
              exact hP2.q
            · rw [upd_ne hb]
              exact hB2 b o e hb
          · show tNext _ _ _
            -- mixed = ..
            refine ⟨_, rfl, .inl ⟨c, rfl, ?_⟩⟩
            refine ⟨c, 2147483543, rfl, rfl, (show (2147483543 : Int) ≠ 0 by decide), ?_⟩
            refine ⟨_, rfl, 80747, s, rfl, rfl, .inl ⟨by decide, by decide⟩, ?_⟩
            refine ⟨_, _, rfl, rfl, _, _, rfl, rfl, ?_⟩
            have b1 := fm (c) (show (0 : Int) < 2147483543 by decide)
            refine ⟨_, 5, rfl, rfl, ⟨by decide, by decide, by omega⟩, .inl ⟨_, rfl, _, 2147483647, rfl, rfl, (show (2147483647 : Int) ≠ 0 by decide), ?_⟩⟩
            have b2 := fm ((Int.fmod (c) 2147483543 + 80747 * s + 1867) ^ (5 : Int).toNat) (show (0 : Int) < 2147483647 by decide)
            obtain ⟨y, hy⟩ : ∃ y, y = Int.fmod ((Int.fmod (c) 2147483543 + 80747 * s + 1867) ^ (5 : Int).toNat) 2147483647 := ⟨_, rfl⟩
            rw [← hy] at b2
            refine ⟨_, rfl, _, rfl, 2, s, rfl, rfl, .inl ⟨by decide, by decide⟩, _, _, rfl, rfl, y, _, congrArg V.int hy.symm, rfl, .inl ⟨by omega, by omega⟩, ?_⟩
            refine ⟨_, rfl, 84653, s, rfl, rfl, .inl ⟨by decide, by decide⟩, _, rfl, _, s, rfl, rfl, .inr ⟨by omega, by omega⟩, ?_⟩
            refine ⟨_, _, rfl, rfl, _, _, rfl, rfl, ?_⟩
            have b3 : 0 ≤ y * (2 * s + 955) ∧ y * (2 * s + 955) ≤ 2147483647 * 300000 := ⟨Int.mul_nonneg b2.1 (by omega), Int.mul_le_mul (by omega) (by omega) (by omega) (by decide)⟩
            have b4 : 0 ≤ 84653 * s * s ∧ 84653 * s * s ≤ 8465300000 * 100000 := ⟨Int.mul_nonneg (by omega) hs0, Int.mul_le_mul (by omega) (by omega) hs0 (by decide)⟩
            refine ⟨_, 3, rfl, rfl, ⟨by decide, by decide, by omega⟩, .inl ⟨_, rfl, _, 2147483579, rfl, rfl, (show (2147483579 : Int) ≠ 0 by decide), ?_⟩⟩
            refine ⟨_, rfl, _, 32, rfl, rfl, ⟨by decide, by decide⟩, .inl ⟨_, rfl, _, rfl, _, m, rfl, rfl, by omega, ?_⟩⟩
            exact k _ (s + 1) g _ (fm _ hm0).1 (fm _ hm0).2 (by omega) (Int.le_refl _) hP2 hB2
        · -- mixed = ..
          refine ⟨_, rfl, .inl ⟨c, rfl, ?_⟩⟩
          refine ⟨c, 2147483543, rfl, rfl, (show (2147483543 : Int) ≠ 0 by decide), ?_⟩
          refine ⟨_, rfl, 80747, s, rfl, rfl, .inl ⟨by decide, by decide⟩, ?_⟩
          refine ⟨_, _, rfl, rfl, _, _, rfl, rfl, ?_⟩
          have b1 := fm (c) (show (0 : Int) < 2147483543 by decide)
          refine ⟨_, 5, rfl, rfl, ⟨by decide, by decide, by omega⟩, .inl ⟨_, rfl, _, 2147483647, rfl, rfl, (show (2147483647 : Int) ≠ 0 by decide), ?_⟩⟩
          have b2 := fm ((Int.fmod (c) 2147483543 + 80747 * s + 1867) ^ (5 : Int).toNat) (show (0 : Int) < 2147483647 by decide)
          obtain ⟨y, hy⟩ : ∃ y, y = Int.fmod ((Int.fmod (c) 2147483543 + 80747 * s + 1867) ^ (5 : Int).toNat) 2147483647 := ⟨_, rfl⟩
          rw [← hy] at b2
          refine ⟨_, rfl, _, rfl, 2, s, rfl, rfl, .inl ⟨by decide, by decide⟩, _, _, rfl, rfl, y, _, congrArg V.int hy.symm, rfl, .inl ⟨by omega, by omega⟩, ?_⟩
          refine ⟨_, rfl, 84653, s, rfl, rfl, .inl ⟨by decide, by decide⟩, _, rfl, _, s, rfl, rfl, .inr ⟨by omega, by omega⟩, ?_⟩
          refine ⟨_, _, rfl, rfl, _, _, rfl, rfl, ?_⟩
          have b3 : 0 ≤ y * (2 * s + 955) ∧ y * (2 * s + 955) ≤ 2147483647 * 300000 := ⟨Int.mul_nonneg b2.1 (by omega), Int.mul_le_mul (by omega) (by omega) (by omega) (by decide)⟩
          have b4 : 0 ≤ 84653 * s * s ∧ 84653 * s * s ≤ 8465300000 * 100000 := ⟨Int.mul_nonneg (by omega) hs0, Int.mul_le_mul (by omega) (by omega) hs0 (by decide)⟩
          refine ⟨_, 3, rfl, rfl, ⟨by decide, by decide, by omega⟩, .inl ⟨_, rfl, _, 2147483579, rfl, rfl, (show (2147483579 : Int) ≠ 0 by decide), ?_⟩⟩
          refine ⟨_, rfl, _, 32, rfl, rfl, ⟨by decide, by decide⟩, .inl ⟨_, rfl, _, rfl, _, m, rfl, rfl, by omega, ?_⟩⟩
          exact k _ (s + 1) g _ (fm _ hm0).1 (fm _ hm0).2 (by omega) (Int.le_refl _) hP2 hB2
end
end K06

set_option Elab.async false
set_option linter.all false
set_option maxRecDepth 100000
set_option maxHeartbeats 4000000
/-! What the law draws: one of some things, an amount. -/
namespace K06
open PySem PySem.Spec PyProof.Rows L2
def spPick : Sp := fun vs H Q _ => ∃ (p q : Addr) (ns : List Int) (s g : Int) (a : Addr) (xs : List V), vs = [.ref p, .ref a] ∧ Pen H p q ns s g ∧ ns.length ≤ 63 ∧ 0 ≤ s ∧ s < 100000 ∧ H a = some (.lst xs) ∧ a ≠ p ∧ 0 < xs.length ∧ xs.length < 100000 ∧
  ∀ (v : V) (s' g' : Int) (H' : Hp), v ∈ xs → s ≤ s' → s' ≤ s + 1 → Pen H' p q ns s' g' → But p H H' → Q v H'
theorem scPick : FnScope ["pen", "some"] ["pen", "some"] (defScope sPick) := ⟨rfl, rfl, rfl, by decide +kernel, rfl, by decide +kernel, by decide +kernel⟩
section
variable {P : Program} {w : World} {K : PySem.W.Frag} {mg : Str → Option Value} {base : Heap} {f fD fP : Addr} {fd fdD fdP : FuncData}
theorem ok_pick (F : Fun K "_law_pick" "_law_pick" sPick f fd) (T : Blt mg) (G : FnOk P w K mg base CX0 1 fD fdD ["pen", "many"] spDraw) (b : Binds K fdD ["pen", "many"] []) (gD : mg "_law_draw" = some (.ref fD)) (kD : PySem.W.keepIn K (.ref fD) = true) :
    FnOk P w K mg base CX0 2 f fd ["pen", "some"] spPick := by
  refine F.ok scPick (fun vs H Q E h => ?_) (fun cdv A outer s H vs Q E hr h => ?_)
  · obtain ⟨p, q, ns, s, g, a, xs, rfl, _⟩ := h
    rfl
  · obtain ⟨p, q, ns, s, g, a, xs, rfl, hP, hl, h0, h1, ha, nap, x0, x1, k⟩ := h
    refine ⟨_, pss_one (ps_ret (pe_ix ix_list (pv 1) (pe_call G hr (by rfl) gD kD b .nil pass0 (pa_cons (pv 0) (pa_cons (pe_callB call_len_seq (by rfl) T.len PySem.boot_len (pa_cons (pv 1) pa_nil)) pa_nil))) (fun _ _ => rfl))), ?_⟩
    refine ⟨_, rfl, _, rfl, _, rfl, a, xs, rfl, .inl (SqL.of ha), p, q, ns, s, g, _, rfl, hP, hl, h0, h1, by omega, by omega, fun n s' g' H' n0 n1 s0 s1 hP' hB => ?_⟩
    have hj : n.toNat < xs.length := by omega
    exact ⟨a, xs, n, xs[n.toNat], rfl, rfl, SqL.of (hB a _ ha nap), at_of (j := n.toNat) (by omega) (List.getElem?_eq_getElem hj), k _ s' g' H' (List.getElem_mem hj) s0 s1 hP' hB⟩
end
end K06

set_option Elab.async false
set_option linter.all false
set_option maxRecDepth 100000
set_option maxHeartbeats 2000000
/-! Table.__init__. -/
namespace Tb
open PySem PySem.Spec PyProof.Rows L2 EvP Cm Fk DtE KyS XG
def tmeth (j : Nat) : Stmt := match top 35 with
  | .ClassDef _ _ _ body _ _ _ _ _ _ _ => body.getD j (.Pass ⟨0, 0, 0, 0⟩)
  | _ => .Pass ⟨0, 0, 0, 0⟩
abbrev sTI : Stmt := tmeth 0
abbrev NI : List Str := ["self", "rows", "uses", "row", "use", "a", "x", "worth"]
theorem scTI : FnScope NI ["self", "rows", "uses"] (defScope sTI) := ⟨rfl, rfl, rfl, by decide +kernel, rfl, by decide +kernel, by decide +kernel⟩
theorem TabAt.ne {H : Hp} {d : Addr} {T : Tab} (h : TabAt H d T) : ∀ t ∈ T, t.2.1 ≠ d := fun t ht z => by
  have a := h.row t ht
  rw [z, h.at_] at a
  have b := HO.dK.inj (Option.some.inj a)
  cases c : t.2.2 with
  | nil =>
    rw [c] at b
    rw [List.map_eq_nil_iff.mp b] at ht
    cases ht
  | cons e r =>
    rw [c] at b
    cases T with
    | nil => cases ht
    | cons t0 T0 => cases (Prod.mk.inj (List.cons.inj b).1).2
theorem locks_nod {H : Hp} {d : Addr} {T : Tab} (h : TabAt H d T) (n : (T.map (·.2.1)).Nodup) : ((locks d T).map (·.1)).Nodup := by
  unfold locks
  rw [List.map_cons, List.map_map, List.nodup_cons]
  refine ⟨fun m => ?_, n⟩
  obtain ⟨t, ht, e⟩ := List.mem_map.mp m
  exact h.ne t ht e
theorem locks_at {H : Hp} {d : Addr} {T : Tab} (h : TabAt H d T) : ∀ p ∈ locks d T, H p.1 = some p.2 ∧ Mut (some p.2) := fun p hp => by
  rcases List.mem_cons.mp hp with rfl | hp
  · exact ⟨h.at_, True.intro⟩
  · obtain ⟨t, ht, rfl⟩ := List.mem_map.mp hp
    exact ⟨h.row t ht, True.intro⟩
theorem Froz.tab {H Hf : Hp} {d : Addr} {T : Tab} (f : Froz (locks d T) H Hf) : TabF Hf d T := ⟨f.at_ _ (.head _), fun t ht => f.at_ _ (.tail _ (List.mem_map.mpr ⟨t, ht, rfl⟩))⟩
/-- the names in the rows, one row behind another -/
def namesOf (T : Tab) : List Str := T.flatMap fun t => t.2.2.map (·.1)
def ysOf (T : Tab) : V → List V
  | .ref r => match T.find? (fun t => decide (t.2.1 = r)) with
    | some t => t.2.2.map fun e => V.str e.1
    | none => []
  | _ => []
theorem ysOf_of : ∀ {T : Tab}, (T.map (·.2.1)).Nodup → ∀ t ∈ T, ysOf T (.ref t.2.1) = t.2.2.map fun e => V.str e.1
  | [], _, t, h => by cases h
  | t0 :: T, n, t, h => by
    rw [List.map_cons, List.nodup_cons] at n
    by_cases c : t0.2.1 = t.2.1
    · rcases List.mem_cons.mp h with rfl | h
      · show (match List.find? (fun t' : Str × Addr × Fk.Row => decide (t'.2.1 = t.2.1)) (t :: T) with
          | some t => t.2.2.map fun e : Str × Int => V.str e.1
          | none => []) = _
        rw [List.find?_cons, decide_eq_true rfl]
      · exact absurd (List.mem_map.mpr ⟨t, h, c.symm⟩) n.1
    · have hT : t ∈ T := (List.mem_cons.mp h).resolve_left fun e => c (by rw [e])
      have ih := ysOf_of n.2 t hT
      show (match List.find? (fun t' : Str × Addr × Fk.Row => decide (t'.2.1 = t.2.1)) (t0 :: T) with
          | some t => t.2.2.map fun e : Str × Int => V.str e.1
          | none => []) = _
      rw [List.find?_cons, decide_eq_false c]
      exact ih
theorem ys_flat {T : Tab} (n : (T.map (·.2.1)).Nodup) : ((T.map fun t => V.ref t.2.1).flatMap (ysOf T)) = (namesOf T).map V.str := by
  have e : ∀ (S : Tab), (∀ t ∈ S, t ∈ T) → (S.map fun t => V.ref t.2.1).flatMap (ysOf T) = (namesOf S).map V.str := fun S => by
    induction S with
    | nil => intro _; rfl
    | cons t S ih =>
      intro h
      unfold namesOf at ih ⊢
      rw [List.map_cons, List.flatMap_cons, List.flatMap_cons, List.map_append, ih fun t' ht' => h t' (.tail _ ht'), ysOf_of n t (h t (.head _)), List.map_map]
      rfl
  exact e T fun _ h => h
/-- the class Table -/
structure TblC (K : PySem.W.Frag) (C : Addr) : Prop where
  cl : Cls K C
  nS : NoAttr K C "sources"
  nU : NoAttr K C "uses"
  nW : NoAttr K C "_worths"
  nP : NoAttr K C "pairs"
/-- the table at x: its sources, its uses, its worths -/
structure TblAt (C : Addr) (H : Hp) (x : Addr) (ss xs : List Str) (r : TRow) : Prop where
  ex : ∃ (dx n1 n2 dw p : Addr) (prs : List V), H x = some (.ins C dx [("sources", .ref n1), ("uses", .ref n2), ("_worths", .ref dw), ("pairs", .ref p)]) ∧ H n1 = some (.tup (ss.map V.str)) ∧ H n2 = some (.tup (xs.map V.str)) ∧ H dw = some (.dT (tents r)) ∧
    H p = some (.tup prs) ∧ All2 H ((sortK (r.map (·.1))).map fun k => tupV (k.map kV)) prs
theorem TblAt.mono {C x : Addr} {H H' : Hp} {ss xs : List Str} {r : TRow} (e : Ex H H') (h : TblAt C H x ss xs r) : TblAt C H' x ss xs r := by
  obtain ⟨dx, n1, n2, dw, p, prs, h1, h2, h3, h4, h5, h6⟩ := h
  exact ⟨dx, n1, n2, dw, p, prs, e _ _ h1, e _ _ h2, e _ _ h3, e _ _ h4, e _ _ h5, h6.ex e⟩
/-- all uses of a table -/
def usesOf (us : List Str) (T : Tab) : List Str := srt (firsts (us ++ namesOf T))
def spTI (K : PySem.W.Frag) (C : Addr) : Sp := fun vs H Q _ => ∃ (x d u dx : Addr) (T : Tab) (us : List Str), vs = [.ref x, .ref d, .ref u] ∧ H x = some (.ins C dx []) ∧ TabAt H d T ∧ TabOk T ∧ T.length ≤ 6 ∧ SqA K H u (us.map V.str) ∧ (∀ n ∈ us, NameV (.str n)) ∧ us.length ≤ 100 ∧ (usesOf us T).length ≤ 6 ∧
  ∀ H', (∀ b o, H b = some o → b ≠ x → H' b = some o) → TblAt C H' x (srt (T.map (·.1))) (usesOf us T) (worths T) → Q .non H'
theorem spTI_len {K : PySem.W.Frag} {C : Addr} : ∀ vs H Q E, spTI K C vs H Q E → vs.length = (["self", "rows", "uses"] : List Str).length := fun vs H Q E h => by
  obtain ⟨x, d, u, dx, T, us, rfl, _⟩ := h
  rfl
theorem FunD.okG {P : Program} {w : World} {K : PySem.W.Frag} {mg : Str → Option Value} {base : Heap} {x qual : Str} {params : Arguments} {body : List Stmt} {scope : Scope} {dvs : List V} {kws : List (Str × V)} {f : Addr} {fd : FuncData} {N ps : List Str} {k : Nat} {sp : Sp}
    (F : FunD K x qual params body scope dvs kws f fd) (S : FnScope N ps scope) (len : ∀ vs H Q E, sp vs H Q E → vs.length = ps.length)
    (walk : ∀ (cdv : Value) (A : Around) (outer : List Env) (s : Shared) (H : Hp) (vs : List V) (Q : VK) (E : XK), A.guards = some [] → Room k (A.deeper (envOfC qual scope s.heap.objs.size f cdv)) → sp vs H Q E →
      ∃ t, PSs (cxOf CX0 P w K mg base N qual scope f cdv A outer s H E).nox body t ∧ t { nx := fun _ H' => Q .non H', rt := Q } (start N vs) H) : FnG P w K mg base CX0 (k + 1) f fd ps sp := by
  obtain ⟨oc, od, dV, kV, doc, pm, an, cdv, ct, osl, rfl, lk, hcd, _, _⟩ := F.ex
  refine fnG_of lk hcd S len fun A outer s H vs Q E gd room h => ?_
  obtain ⟨t, a, b⟩ := walk cdv A outer s H vs Q E gd room h
  exact ⟨t, a.nox, b⟩
section
variable {P : Program} {w : World} {K : PySem.W.Frag} {mg : Str → Option Value} {base : Heap} {C f fC fA fJ : Addr} {fd fdC fdA fdJ : FuncData} {dvs : List V} {kws : List (Str × V)} {σ : L2.St} {H : Hp}
theorem g_ascL {ns : List Str} {te : TE} (h : EvP.Gives te σ H (lstV (ns.map V.str))) : EvP.Gives (tCall (spAsc K) [] E0 (tCons te tNil)) σ H (tupV ((srt ns).map V.str)) := fun H1 e Q q =>
  h H1 e _ fun v H2 e2 ⟨a, ev, ha⟩ => by
    subst ev
    exact ⟨a, ns.map V.str, keyS, rfl, SqL.of ha, KeyV.strs ns, fun p2 H3 e3 np h3 => q _ H3 (e2.trans e3) ⟨p2, rfl, by rw [h3, byKey_strs]⟩⟩
theorem g_listD {i : Nat} {d : Addr} {kvs : List (Key × V)} (hi : σ[i]? = some (some (.ref d))) (hd : H d = some (.dK kvs)) : EvP.Gives (tCB (fun xs H Q => ∃ (a : Addr) (kvs : List (Key × V)), xs = [.ref a] ∧ Rd H a (.dK kvs) ∧ ∀ p, H p = none → Q (.ref p) (upd H p (.lst (kvs.map fun kv => kV kv.1)))) (tCons (tVar i) tNil)) σ H (lstV (kvs.map fun kv => kV kv.1)) :=
  fun H1 e Q q => ⟨_, hi, d, kvs, rfl, .inl (e _ _ hd), fun p hp => q _ _ (Ex.new hp) ⟨p, rfl, upd_same⟩⟩
/-- [use for row in rows.values() for use in row] -/
theorem g_uses {x d u : Addr} {T : Tab} (h : TabAt H d T) (ok : TabOk T) : EvP.Gives (tLockL (tLc2 (iVals (tVar 1)) (gName 3) tYes (iKeys (tVar 3)) (gName 4) tYes (tVar 4) [3, 4] [4])) (σ0 x d u) H (lstV ((namesOf T).map V.str)) := by
  refine g_lockL (locks_nod h ok.nodA) (locks_at h) fun H1 e1 Hf fr => ?_
  have tf := Froz.tab fr
  obtain ⟨od, hd⟩ := tf.at_
  have w := walks_vals (m := 1) (σ := σ0 x d u) rfl hd
  rw [List.map_map] at w
  have few : (namesOf T).length ≤ 1000 := by
    have l : ∀ (S : Tab), (∀ t ∈ S, t ∈ T) → (namesOf S).length ≤ 12 * S.length := fun S => by
      induction S with
      | nil => intro _; simp [namesOf]
      | cons t S ih =>
        intro hS
        have := ih fun t' ht' => hS t' (.tail _ ht')
        have := (ok.row t (hS t (.head _))).2.2
        unfold namesOf at *
        rw [List.flatMap_cons, List.length_append, List.length_map, List.length_cons]
        omega
    have := l T fun _ h => h
    have := ok.few
    omega
  have c := comp2 (te := tVar 4) (i := 3) (j := 4) (vs := [3, 4]) (vs1 := [4]) (wi1 := iKeys (tVar 3)) (ys := ysOf T) id w (by
      show ((T.map fun t => V.ref t.2.1).flatMap (ysOf T)).length ≤ 1000
      rw [ys_flat ok.nodA, List.length_map]
      exact few) (fun _ => rfl) (fun _ _ => rfl) (fun y hy => ?_) (fun y hy z hz => EvP.var rfl)
  · rw [List.map_id] at c
    rw [← ys_flat ok.nodA]
    exact c
  · obtain ⟨t, ht, rfl⟩ := List.mem_map.mp hy
    obtain ⟨o2, h2⟩ := tf.row t ht
    have wk := walksD_keys (m := 3) (σ := (wipe (σ0 x d u) [3, 4]).set 3 (some (.ref t.2.1))) (H := Hf) rfl h2
    have e : (ents t.2.2).map (fun p => kV p.1) = ysOf T (.ref t.2.1) := by
      rw [ysOf_of ok.nodA t ht]
      unfold ents
      rw [List.map_map]
      rfl
    rw [e] at wk
    exact wk
end
end Tb

set_option Elab.async false
set_option linter.all false
set_option maxRecDepth 100000
set_option maxHeartbeats 4000000
/-! Tests and signs that only add objects; a walk over a side. -/
namespace Cm
open PySem PySem.Spec PyProof.Rows L2 EvP
/-- a test that says b, and only adds -/
def Tst (tt : TT) (σ : L2.St) (H : Hp) (b : Bool) : Prop := ∀ H1, Ex H H1 → ∀ Q : Bool → Hp → Prop, (∀ H2, Ex H1 H2 → Q b H2) → tt σ H1 Q
section
variable {K : PySem.W.Frag} {σ : L2.St} {H : Hp} {ta tb te tc : TE} {P R S : PR} {tt tu : TT} {b c : Bool} {t u : TS} {D : Ends}
theorem t_or (h : Tst tt σ H false) (k : Tst tu σ H b) : Tst (tOr tt tu) σ H b := fun H1 e Q q =>
  h H1 e _ fun H2 e2 => (by
    show tu σ H2 Q
    exact k H2 (e.trans e2) Q fun H3 e3 => q H3 (e2.trans e3))
theorem t_and (h : Tst tt σ H true) (k : Tst tu σ H b) : Tst (tAnd tt tu) σ H b := fun H1 e Q q =>
  h H1 e _ fun H2 e2 => (by
    show tu σ H2 Q
    exact k H2 (e.trans e2) Q fun H3 e3 => q H3 (e2.trans e3))
theorem t_andF (h : Tst tt σ H false) : Tst (tAnd tt tu) σ H false := fun H1 e Q q => h H1 e _ fun H2 e2 => q H2 e2
theorem t_not (h : Tst tt σ H b) : Tst (tNot tt) σ H (!b) := fun H1 e Q q => h H1 e _ q
theorem t_val (h : EvP.Gives te σ H (is (.bl b))) : Tst (tB te) σ H b := fun H1 e Q q => h H1 e _ fun v H2 e2 ev => ⟨b, ev, q _ e2⟩
theorem t_test (h : EvP.Gives te σ H (is (.bl b))) : Tst (tTest te) σ H b := fun H1 e Q q => h H1 e _ fun v H2 e2 ev => ⟨b, ev, q _ e2⟩
/-- a sign of two values -/
theorem g_op {r : R2} (h : EvP.Gives ta σ H P) (k : EvP.Gives tb σ H R) (step : ∀ x y H1, Ex H H1 → P.R x H1 → R.R y H1 → ∀ Q : VK, (∀ v H2, Ex H1 H2 → S.R v H2 → Q v H2) → r x y H1 Q) : EvP.Gives (tOp r ta tb) σ H S := fun H1 e Q q =>
  h H1 e _ fun x H2 e2 hx => k H2 (e.trans e2) _ fun y H3 e3 hy => step x y H3 ((e.trans e2).trans e3) (P.mono _ _ _ e3 hx) hy Q fun v H4 e4 hv => q v H4 ((e2.trans e3).trans e4) hv
/-- a call of a built-in, one argument -/
theorem g_call {r : List V → Hp → VK → Prop} (h : EvP.Gives te σ H P) (step : ∀ x H1, Ex H H1 → P.R x H1 → ∀ Q : VK, (∀ v H2, Ex H1 H2 → S.R v H2 → Q v H2) → r [x] H1 Q) : EvP.Gives (tCB r (tCons te tNil)) σ H S := fun H1 e Q q =>
  h H1 e _ fun x H2 e2 hx => step x H2 (e.trans e2) hx Q fun v H3 e3 hv => q v H3 (e2.trans e3) hv
theorem g_and (h : EvP.Gives ta σ H (is (.bl true))) (k : EvP.Gives tb σ H P) : EvP.Gives (tAndV ta tb) σ H P := fun H1 e Q q =>
  h H1 e _ fun v H2 e2 ev => ⟨true, ev, (by
    show tb σ H2 Q
    exact k H2 (e.trans e2) Q fun u H3 e3 hu => q u H3 (e2.trans e3) hu)⟩
theorem st_ifF (h : Tst tt σ H false) (k : ∀ H1, Ex H H1 → u D σ H1) : tSeq (tIfS tt t tNext) u D σ H := h H (Ex.refl H) _ k
theorem st_ifT (h : Tst tt σ H true) (k : ∀ H1, Ex H H1 → t { D with nx := u D } σ H1) : tSeq (tIfS tt t tNext) u D σ H := h H (Ex.refl H) _ k
/-- the last statement of a block -/
theorem st_ifF1 (h : Tst tt σ H false) (k : ∀ H1, Ex H H1 → D.nx σ H1) : tIfS tt t tNext D σ H := h H (Ex.refl H) _ k
end
end Cm

set_option Elab.async false
set_option linter.all false
set_option maxRecDepth 100000
set_option maxHeartbeats 4000000
/-! Table.__init__: the body. -/
namespace Tb
open PySem PySem.Spec PyProof.Rows L2 EvP Cm Fk DtE KyS XG
theorem g_gt6 {K : PySem.W.Frag} {σ : L2.St} {H : Hp} {te : TE} {xs : List V} (h : EvP.Gives te σ H (tupV xs)) (l : xs.length ≤ 6) {r : List V → Hp → VK → Prop} (hr : ∀ p H1 Q, SqT K H1 p xs → Q (.int (xs.length : Nat)) H1 → r [.ref p] H1 Q) :
    Tst (tTest (tOp (rI0 fun i j => .bl (decide (j < i))) (tCB r (tCons te tNil)) (tC (.int 6)))) σ H false :=
  t_test (g_op (P := is (.int (xs.length : Nat))) (R := is (.int 6)) (g_call h fun x H1 e ⟨a, ev, ha⟩ Q q => by
    subst ev
    exact hr a H1 Q (SqT.of ha) (q _ _ (Ex.refl _) rfl)) EvP.cst fun x y H1 e ex ey Q q => ⟨(xs.length : Nat), 6, ex, ey, by
    show Q (.bl (decide ((6 : Int) < (xs.length : Nat)))) H1
    rw [decide_eq_false (by omega)]
    exact q _ _ (Ex.refl _) rfl⟩)
theorem TabAt.but {H G : Hp} {x d C dx : Addr} {fs : List (Str × V)} {T : Tab} (hx : H x = some (.ins C dx fs)) (k : ∀ b o, H b = some o → b ≠ x → G b = some o) (h : TabAt H d T) : TabAt G d T :=
  ⟨k _ _ h.at_ (ne_of h.at_ hx fun z => nomatch z), fun t ht => k _ _ (h.row t ht) (ne_of (h.row t ht) hx fun z => nomatch z)⟩
theorem SqA.but {K : PySem.W.Frag} {H G : Hp} {x a C dx : Addr} {fs : List (Str × V)} {xs : List V} (hx : H x = some (.ins C dx fs)) (k : ∀ b o, H b = some o → b ≠ x → G b = some o) (h : SqA K H a xs) : SqA K G a xs := by
  rcases h with ((h | ⟨o, h⟩) | h) | ((h | ⟨o, h⟩) | h)
  · exact .inl (.inl (.inl (k _ _ h (ne_of h hx fun z => nomatch z))))
  · exact .inl (.inl (.inr ⟨o, k _ _ h (ne_of h hx fun z => nomatch z)⟩))
  · exact .inl (.inr h)
  · exact .inr (.inl (.inl (k _ _ h (ne_of h hx fun z => nomatch z))))
  · exact .inr (.inl (.inr ⟨o, k _ _ h (ne_of h hx fun z => nomatch z)⟩))
  · exact .inr (.inr h)
theorem keys_stay {H : Hp} {x : Addr} {o o' : HO} (hx : H x = some o) (ho : ∀ ys, o ≠ .tup ys) : ∀ {ks : List (List Key)} {vs : List V}, All2 H (ks.map fun k => tupV (k.map kV)) vs → All2 (upd H x o') (ks.map fun k => tupV (k.map kV)) vs
  | [], _, .nil => .nil
  | k :: ks, _, .cons ⟨a, ev, ha⟩ r => .cons ⟨a, ev, by
    rw [upd_ne (fun z => by
      rw [z, hx] at ha
      exact ho _ (Option.some.inj ha))]
    exact ha⟩ (keys_stay hx ho r)
theorem names_few {T : Tab} (ok : TabOk T) : (namesOf T).length ≤ 144 := by
  have l : ∀ (S : Tab), (∀ t ∈ S, t ∈ T) → (namesOf S).length ≤ 12 * S.length := fun S => by
    induction S with
    | nil => intro _; simp [namesOf]
    | cons t S ih =>
      intro hS
      have := ih fun t' ht' => hS t' (.tail _ ht')
      have := (ok.row t (hS t (.head _))).2.2
      unfold namesOf at *
      rw [List.flatMap_cons, List.length_append, List.length_map, List.length_cons]
      omega
  have := l T fun _ h => h
  have := ok.few
  omega
theorem worths_few {T : Tab} (ok : TabOk T) : (worths T).length ≤ 144 := by
  have l : ∀ (S : Tab), (worths S).length ≤ (namesOf S).length := fun S => by
    induction S with
    | nil => simp [worths, namesOf]
    | cons t S ih =>
      unfold worths namesOf wrow at *
      rw [List.flatMap_cons, List.flatMap_cons, List.length_append, List.length_append, List.length_map, List.length_map]
      have := List.length_filter_le (fun e : Str × Int => decide (0 < e.2)) t.2.2
      omega
  exact Nat.le_trans (l T) (names_few ok)
theorem mem_worths {T : Tab} {z : List Key × Int} (h : z ∈ worths T) : ∃ t ∈ T, ∃ e ∈ t.2.2, 0 < e.2 ∧ z = (key2 t.1 e.1, e.2) := by
  obtain ⟨t, ht, hz⟩ := List.mem_flatMap.mp h
  obtain ⟨e, he, rfl⟩ := List.mem_map.mp hz
  exact ⟨t, ht, e, (List.mem_filter.mp he).1, of_decide_eq_true (List.mem_filter.mp he).2, rfl⟩
theorem key2_inj {a b x y : Str} (h : key2 a x = key2 b y) : a = b ∧ x = y := by
  unfold key2 at h
  have h1 := (List.cons.inj h).1
  have h2 := (List.cons.inj (List.cons.inj h).2).1
  exact ⟨Sum.inr.inj h1, Sum.inr.inj h2⟩
theorem wrow_nod (a : Str) {r : Fk.Row} (h : (r.map (·.1)).Nodup) : ((wrow a r).map (·.1)).Nodup := by
  unfold wrow
  rw [List.map_map]
  have h2 : ((r.filter fun e => decide (0 < e.2)).map (·.1)).Nodup := h.sublist (List.filter_sublist.map _)
  rw [List.nodup_iff_pairwise_ne, List.pairwise_map] at h2 ⊢
  exact h2.imp fun ne e => ne (key2_inj e).2
theorem worths_nod {T : Tab} (ok : TabOk T) : ((worths T).map (·.1)).Nodup := by
  have l : ∀ (S : Tab), (S.map (·.1)).Nodup → (∀ t ∈ S, t ∈ T) → ((worths S).map (·.1)).Nodup := fun S => by
    induction S with
    | nil => intro _ _; exact List.nodup_nil
    | cons t S ih =>
      intro nd hS
      rw [List.map_cons, List.nodup_cons] at nd
      have i2 := ih nd.2 fun t' ht' => hS t' (.tail _ ht')
      have e : worths (t :: S) = wrow t.1 t.2.2 ++ worths S := by
        unfold worths
        rw [List.flatMap_cons]
      rw [e, List.map_append, List.nodup_append]
      refine ⟨wrow_nod _ (ok.row t (hS t (.head _))).1, i2, fun k hk k' hk' ee => ?_⟩
      obtain ⟨z, hz, rfl⟩ := List.mem_map.mp hk
      obtain ⟨z', hz', rfl⟩ := List.mem_map.mp hk'
      obtain ⟨c, _, rfl⟩ := List.mem_map.mp hz
      obtain ⟨t', ht', c', _, _, rfl⟩ := mem_worths hz'
      have := (key2_inj ee).1
      exact nd.1 (List.mem_map.mpr ⟨t', ht', this.symm⟩)
  exact l T ok.nod fun _ h => h
theorem worths_pair {T : Tab} (ok : TabOk T) : ∀ z ∈ worths T, PairK z.1 := fun z hz => by
  obtain ⟨t, ht, e, he, _, rfl⟩ := mem_worths hz
  exact ⟨t.1, e.1, rfl, ok.nm t ht, ((ok.row t ht).2.1 e he).1⟩
end Tb

set_option Elab.async false
set_option linter.all false
set_option maxRecDepth 100000
set_option maxHeartbeats 4000000
/-! Signs of own instances: a def of the class that keeps a promise, asked by a sign. -/
namespace Own
open PySem PySem.Spec PyProof.Rows L2
/-- the method m of the class at C: its def at f keeps sp -/
structure Mt (P : Program) (w : World) (K : PySem.W.Frag) (mg : Str → Option Value) (base : Heap) (C : Addr) (m : Str) (k : Nat) (ps : List Str) (sp : Sp) (f : Addr) (fd : FuncData) : Prop where
  at_ : PySem.W.findIn K (.ref C) m = some (some (.ref f))
  fn : PySem.W.isFn K (.ref f) = true
  ok : FnOk P w K mg base CX0 k f fd ps sp
  b : Binds K fd ps []
section
variable {X : Cx} {pins : List (Addr × Obj)} {σ : L2.St} {H : Hp} {s : Shared} {C f : Addr} {fd : FuncData} {k : Nat} {ps : List Str} {sp : Sp} {m : Str}
/-- the call of a def within the builtins that the frame runs -/
theorem run_at {A' : Around} {vs : List V} {us : List Value} {Q : VK} (F : FnOk X.prog X.w X.K X.mg X.base CX0 k f fd ps sp) (b : Binds X.K fd ps []) (frames : A'.frames = X.A.frames) (hr : Room k A') (I : Inv X pins σ H s) (r : Vals vs us) (h : sp vs H Q E0) :
    wpAny (model X.prog X.w) A' (call (.ref f) us) (EP X pins σ Q) X.xe s := by
  have e := I.env0
  have n : (us ++ []).length = ps.length := by rw [List.append_nil, ← r.length]; exact F.len _ _ _ _ h
  refine wpAny_call (codeAny_mono (F.run A' X.stack s H ⟨us, []⟩ (us ++ []) vs Q E0 hr ⟨frames.trans e.frames, e.mod, e.bs, e.bsz, e.funs, e.frf, e.hok, e.bare⟩ (b s us I.kIn n) (by rw [List.append_nil]; exact r) h) fun r s' q => ?_)
  cases r with
  | error e => exact (show False from q).elim
  | ok fl =>
    cases fl with
    | ret u => exact I.after q
    | next => exact (show False from q).elim
    | brk => exact (show False from q).elim
    | cont => exact (show False from q).elim
theorem ins_at {a dx : Addr} {fs : List (Str × V)} (I : Inv X pins σ H s) (e : H a = some (.ins C dx fs)) : ∃ ox od, PySem.W.InstAt s.heap a ox C od := by
  obtain ⟨mA, O, _⟩ := ins_get I.hok e
  obtain ⟨od, J, _⟩ := O.look
  exact ⟨_, _, J⟩
theorem not_ni {v : V} {u : Value} (r : RelV v u) : u ≠ .notImplemented := by
  rintro rfl
  cases v with
  | non => cases (show Value.notImplemented = Value.none from r)
  | bl b => cases (show Value.notImplemented = Value.bool b from r)
  | int i => obtain ⟨t, e⟩ := (show ∃ t, Value.notImplemented = Value.int i t from r); cases e
  | str i => obtain ⟨t, e⟩ := (show ∃ t, Value.notImplemented = Value.str i t from r); cases e
  | byt i => obtain ⟨t, e⟩ := (show ∃ t, Value.notImplemented = Value.bytes i t from r); cases e
  | flt i => obtain ⟨t, e⟩ := (show ∃ t, Value.notImplemented = Value.float i t from r); cases e
  | ref i => cases (show Value.notImplemented = Value.ref i from r)
  | ty i => cases (show Value.notImplemented = Value.type i from r)
theorem cmp_back {Q : VK} {u : Value} {s' : Shared} (h : EP X pins σ Q u s') : PySem.W.CmpBack (EP X pins σ Q) u s' := by
  obtain ⟨v, H', I', r, q⟩ := h
  have n := not_ni r
  cases u <;> first | exact absurd rfl n | exact ⟨v, H', I', r, q⟩
/-- an instance of the class at C -/
def Ins (H : Hp) (x : V) (C : Addr) : Prop := ∃ a dx fs, x = .ref a ∧ H a = some (.ins C dx fs)
/-- x op y, both of the class -/
def rOwn (C : Addr) (sp : Sp) : R2 := fun x y H Q => Ins H x C ∧ Ins H y C ∧ sp [x, y] H Q E0
theorem op_own {op : Operator} (M : Mt X.prog X.w X.K X.mg X.base C (PySem.dunder op.info.2) k ps sp f fd) (first : PySem.W.selfFirst X.K C = true) (hr : Room k X.A) : OpR X (binaryOp op) (rOwn C sp) := by
  intro pins s σ H x y v u Q I rx ry h
  obtain ⟨⟨a, dx, fs, rfl, ha⟩, ⟨b, dy, gs, rfl, hb⟩, h⟩ := h
  cases rx
  cases ry
  obtain ⟨ox, od, J⟩ := ins_at I ha
  obtain ⟨oy, oe, L⟩ := ins_at I hb
  obtain ⟨m, fr⟩ := I.fr
  exact PySem.W.binop_K fr I.ok.mod.kin J L.type first M.at_ M.fn (wpAny_mono (run_at M.ok M.b rfl hr I (.cons (show RelV (V.ref a) (Value.ref a) from rfl) (.cons (show RelV (V.ref b) (Value.ref b) from rfl) .nil)) h) (fun _ _ z => cmp_back z) fun _ _ z => z)
/-- x op y, a comparison that is no identity: y's type is told by t -/
def rCmpOwn (K : PySem.W.Frag) (C : Addr) (sp : Sp) : R2 := fun x y H Q => Ins H x C ∧ Ins H y C ∧ sp [x, y] H Q E0
theorem cmp_own {op : CmpOp} (M : Mt X.prog X.w X.K X.mg X.base C (cmpInfo op).2.1 k ps sp f fd) (hr : Room k X.A) (hop : ∀ a b : Value, compareOp op a b = richCompare op a b := by intro _ _; rfl) : OpR X (compareOp op) (rCmpOwn X.K C sp) := by
  intro pins s σ H x y v u Q I rx ry h
  obtain ⟨⟨a, dx, fs, rfl, ha⟩, ⟨b, dy, gs, rfl, hb⟩, h⟩ := h
  cases rx
  cases ry
  obtain ⟨ox, od, J⟩ := ins_at I ha
  obtain ⟨oy, oe, L⟩ := ins_at I hb
  obtain ⟨m, fr⟩ := I.fr
  rw [hop]
  exact PySem.W.cmp_K (tb := .ref C) (by have := hr.un; omega) fr I.ok.mod.kin J L.type (by unfold PySem.W.notFirst; simp) M.at_ M.fn (wpAny_mono (run_at M.ok M.b rfl hr I (.cons (show RelV (V.ref a) (Value.ref a) from rfl) (.cons (show RelV (V.ref b) (Value.ref b) from rfl) .nil)) h) (fun _ _ z => cmp_back z) fun _ _ z => z)
/-- y in x, by the class's own def, which answers True or False -/
def rInOwn (neg : Bool) (C : Addr) (sp : Sp) : R2 := fun y x H Q => Ins H x C ∧ sp [x, y] H (fun v H' => ∃ b, v = .bl b ∧ Q (.bl (if neg then !b else b)) H') E0
theorem in_own (M : Mt X.prog X.w X.K X.mg X.base C "__contains__" k ps sp f fd) (hr : Room k X.A) : OpR X (compareOp .In) (rInOwn false C sp) := by
  intro pins s σ H y x v u Q I ry rx h
  obtain ⟨⟨a, dx, fs, rfl, ha⟩, h⟩ := h
  cases rx
  obtain ⟨ox, od, J⟩ := ins_at I ha
  obtain ⟨m, fr⟩ := I.fr
  refine PySem.W.in_K fr I.ok.mod.kin J M.at_ M.fn (wpAny_mono (run_at M.ok M.b rfl hr I (.cons (show RelV (V.ref a) (Value.ref a) from rfl) (.cons ry .nil)) h) (fun r s' z => ?_) fun _ _ z => z)
  obtain ⟨v', H', I', rv, b, rfl, q⟩ := z
  obtain rfl : r = Value.bool b := rv
  exact wpAny_truthy_bool ⟨.bl b, _, I', rfl, q⟩
theorem notIn_own (M : Mt X.prog X.w X.K X.mg X.base C "__contains__" k ps sp f fd) (hr : Room k X.A) : OpR X (compareOp .NotIn) (rInOwn true C sp) := by
  intro pins s σ H y x v u Q I ry rx h
  obtain ⟨⟨a, dx, fs, rfl, ha⟩, h⟩ := h
  cases rx
  obtain ⟨ox, od, J⟩ := ins_at I ha
  obtain ⟨m, fr⟩ := I.fr
  refine PySem.W.notIn_K fr I.ok.mod.kin J M.at_ M.fn (wpAny_mono (run_at M.ok M.b rfl hr I (.cons (show RelV (V.ref a) (Value.ref a) from rfl) (.cons ry .nil)) h) (fun r s' z => ?_) fun _ _ z => z)
  obtain ⟨v', H', I', rv, b, rfl, q⟩ := z
  obtain rfl : r = Value.bool b := rv
  exact wpAny_truthy_bool ⟨.bl (!b), _, I', rfl, q⟩
/-- x[y] by the class's own def -/
def rIxOwn (C : Addr) (sp : Sp) : R2 := fun x y H Q => Ins H x C ∧ sp [x, y] H Q E0
theorem ix_own (M : Mt X.prog X.w X.K X.mg X.base C "__getitem__" k ps sp f fd) (fi : PySem.W.fnIn X.K f = true) (hr : Room (k + 1) X.A)
    (hsl : ∀ (slice : Expr) (v u : Value), subscripted slice true v u = runValue (.builtin "lifetime.subscript" ⟨[v, u], []⟩) := by intro _ _ _; with_unfolding_all rfl) : IxR X (rIxOwn C sp) := by
  intro value slice pins s σ H x y v u Q I rx ry h hs
  obtain ⟨⟨a, dx, fs, rfl, ha⟩, h⟩ := h
  cases rx
  obtain ⟨ox, od, J⟩ := ins_at I ha
  obtain ⟨m, fr⟩ := I.fr
  exact PySem.W.sub_K fr I.ok.mod.kin J M.at_ fi M.fn (run_at M.ok M.b rfl hr.in1 I (.cons (show RelV (V.ref a) (Value.ref a) from rfl) (.cons ry .nil)) h) (hsl _ _ _)
/-- len(x) by the class's own def -/
def rLenOwn (C : Addr) (sp : Sp) : List V → Hp → VK → Prop := fun xs H Q => ∃ x, xs = [x] ∧ Ins H x C ∧ sp [x] H (fun v H' => ∃ n : Nat, v = .int n ∧ n < 1000000 ∧ Q (.int n) H') E0
theorem call_lenOwn (M : Mt X.prog X.w X.K X.mg X.base C "__len__" k ps sp f fd) (hr : Room (k + 1) X.A) : CallR X (.builtin "len") (rLenOwn C sp) := by
  intro pins s σ H xs us Q I r h
  obtain ⟨_, rfl, ⟨a, dx, fs, rfl, ha⟩, h⟩ := h
  obtain ⟨u, rfl, ru⟩ := vals1 r
  cases ru
  obtain ⟨ox, od, J⟩ := ins_at I ha
  obtain ⟨m, fr⟩ := I.fr
  refine PySem.W.len_K fr I.ok.mod.kin J M.at_ M.fn (wpAny_mono (run_at M.ok M.b rfl hr.in1 I (.cons (show RelV (V.ref a) (Value.ref a) from rfl) .nil) h) (fun r s' z => ?_) fun _ _ z => z)
  obtain ⟨v', H', I', rv, n, rfl, hn, q⟩ := z
  obtain ⟨t, rfl⟩ := rv
  exact ⟨⟨by omega, by omega⟩, .int n, H', I'.tok _, ⟨_, rfl⟩, q⟩
/-- str(x) by the class's own def -/
def rStrOwn (C : Addr) (sp : Sp) : List V → Hp → VK → Prop := fun xs H Q => ∃ x, xs = [x] ∧ Ins H x C ∧ sp [x] H (fun v H' => ∃ z : Str, v = .str z ∧ Q (.str z) H') E0
theorem call_strOwn (M : Mt X.prog X.w X.K X.mg X.base C "__str__" k ps sp f fd) (hr : Room (k + 2) X.A) : CallR X (.type "str") (rStrOwn C sp) := by
  intro pins s σ H xs us Q I r h
  obtain ⟨_, rfl, ⟨a, dx, fs, rfl, ha⟩, h⟩ := h
  obtain ⟨u, rfl, ru⟩ := vals1 r
  cases ru
  obtain ⟨ox, od, J⟩ := ins_at I ha
  refine PySem.W.kso_call (by have := hr.un; show X.A.units + 1 + 1 < cLine; omega) I.kIn J M.at_ M.fn (wpAny_mono (run_at M.ok M.b rfl hr.in1.in1 I (.cons (show RelV (V.ref a) (Value.ref a) from rfl) .nil) h) (fun r s' z => ?_) fun _ _ z => z)
  obtain ⟨v', H', I', rv, t, rfl, q⟩ := z
  obtain ⟨u, rfl⟩ := rv
  exact ⟨.str t, H', I', ⟨_, rfl⟩, q⟩
/-- ~x by the class's own def -/
theorem un_own (M : Mt X.prog X.w X.K X.mg X.base C "__invert__" k ps sp f fd) (hr : Room k X.A) : UnR X (unaryOp .Invert) (fun x H Q => Ins H x C ∧ sp [x] H Q E0) := by
  intro pins s σ H x v Q I rx h
  obtain ⟨⟨a, dx, fs, rfl, ha⟩, h⟩ := h
  cases rx
  obtain ⟨ox, od, J⟩ := ins_at I ha
  obtain ⟨m, fr⟩ := I.fr
  exact PySem.W.ksp_inv fr I.ok.mod.kin J M.at_ M.fn (run_at M.ok M.b rfl hr I (.cons (show RelV (V.ref a) (Value.ref a) from rfl) .nil) h)
end
end Own

set_option Elab.async false
set_option linter.all false
set_option maxRecDepth 100000
set_option maxHeartbeats 4000000
/-! The truth of an own instance by its __len__. -/
namespace Own
open PySem PySem.Spec PyProof.Rows L2
section
variable {X : Cx} {C f : Addr} {fd : FuncData} {k : Nat} {ps : List Str} {sp : Sp}
def rTruOwn (C : Addr) (sp : Sp) : V → Hp → (Bool → Hp → Prop) → Prop := fun x H Q => Ins H x C ∧ sp [x] H (fun v H' => ∃ n : Nat, v = .int n ∧ n < 1000000 ∧ Q ((n : Int) != 0) H') E0
theorem tru_own (hb : PySem.W.findIn X.K (.ref C) "__bool__" = some none) (M : Mt X.prog X.w X.K X.mg X.base C "__len__" k ps sp f fd) (hr : Room (k + 1) X.A) : TruR X (rTruOwn C sp) := by
  intro pins s σ H x v Q I rx h
  obtain ⟨⟨a, dx, fs, rfl, ha⟩, h⟩ := h
  cases rx
  obtain ⟨ox, od, J⟩ := ins_at I ha
  unfold truthy
  refine wpAny_bind (m := callSpecial? (.ref a) (Str.ofString "__bool__")) (wpAny_bind (wpAny_bind (J.type.here ((PySem.W.looks_findIn I.kIn hb).here (wpAny_pure ?_)))))
  refine wpAny_bind (wpAny_bind (J.type.here ((PySem.W.looks_findIn I.kIn M.at_).here ?_)))
  show wpAny _ _ (runValue (.builtin "len" ⟨[.ref a], []⟩) >>= _) _ _ _
  refine wpAny_bind (wpAny_runValue (codeAny_builtin PySem.entry_len ?_))
  rw [Around.under_plainId PySem.plain_len _]
  unfold Builtin.«len»
  refine wpAny_bind (m := oneArg "len" _) (wpAny_pure ?_)
  refine wpAny_bind (m := callSpecial? (.ref a) (Str.ofString "__len__")) (PySem.W.special_fn I.kIn J M.at_ (beq_iff_eq.mp M.fn) (wpAny_mono (run_at M.ok M.b rfl hr.in1 I (.cons (show RelV (V.ref a) (Value.ref a) from rfl) .nil) h) (fun r s' z => ?_) fun _ _ z => z))
  obtain ⟨v', H', I', rv, n, rfl, hn, q⟩ := z
  obtain ⟨t, rfl⟩ := rv
  refine wpAny_bind (wpAny_holding (wpAny_pure ?_))
  refine wpAny_bind (wpAny_letGo ?_)
  show wpAny _ _ (if (n : Int) < 0 then _ else _) _ _ _
  rw [if_neg (by omega)]
  show wpAny _ _ (if (n : Int) ≥ 2 ^ 63 then _ else _) _ _ _
  rw [if_neg (by omega)]
  refine wpAny_bind (wpAny_mkInt (wpAny_pure ?_))
  exact wpAny_pure ⟨H', I'.tok _, q⟩
end
end Own

set_option Elab.async false
set_option linter.all false
set_option maxRecDepth 100000
set_option maxHeartbeats 4000000
/-! x != y of own instances, where the class has __eq__ and no __ne__. -/
namespace Own
open PySem PySem.Spec PySem.Calls PyProof.Rows PySem.W L2
section
variable {X : Cx} {C f : Addr} {fd : FuncData} {k : Nat} {ps : List Str} {sp : Sp}
theorem ifBound_b {M : Model} {A : Around} {E : Value → Shared → Prop} {s : Shared} {K : Frag} {x C : Addr} {ox : Obj} {od : Option Obj} {name : Str} {id : String} {args : List Value} {Q : Option Value → Shared → Prop} (kin : K.In s.heap) (J : InstAt s.heap x ox C od)
    (hs : findIn K (.ref C) name = some (some (.builtin id))) (hb : ∀ self, bindSpecial (.builtin id) self = pure (.builtin id, [self])) (h : wpAny M A (call (.builtin id) (.ref x :: args)) (fun v => Q (some v)) E s) : wpAny M A (callSpecialIfBound? (.ref x) name args) Q E s := by
  simp only [callSpecialIfBound?, bindSpecialIfBound?]
  refine wpAny_holding (wpAny_bind (wpAny_bind (wpAny_bind (J.type.here ((looks_findIn kin hs).here ?_)))))
  refine wpAny_bind (wpAny_askSetting (wpAny_ite ?_))
  have fin : wpAny M A (call (.builtin id) ([.ref x] ++ args) >>= fun v => pure (some v)) Q E s := wpAny_bind (wpAny_mono h (fun v s' y => wpAny_pure y) fun _ _ y => y)
  split
  · exact wpAny_bind ((Looks.of_pure (hb _)).here (wpAny_pure (by exact fin)))
  · exact wpAny_tryCatch (wpAny_bind ((Looks.of_pure (hb _)).here (wpAny_pure (by exact fin))))
/-- x != y: the class's __eq__, turned about -/
def rNeOwn (C : Addr) (sp : Sp) : R2 := fun x y H Q => Ins H x C ∧ Ins H y C ∧ sp [x, y] H (fun v H' => ∃ b, v = .bl b ∧ Q (.bl (!b)) H') E0
open Builtin in
theorem ne_own (M : Mt X.prog X.w X.K X.mg X.base C "__eq__" k ps sp f fd) (hne : findIn X.K (.ref C) "__ne__" = some (some (.builtin "object.__ne__"))) (hm : mroIn X.K C (.type "object") = some true) (hr : Room (k + 1) X.A) : OpR X (compareOp .NotEq) (rNeOwn C sp) := by
  intro pins s σ H x y v u Q I rx ry h
  obtain ⟨⟨a, dx, fs, rfl, ha⟩, ⟨b, dy, gs, rfl, hb⟩, h⟩ := h
  cases rx
  cases ry
  obtain ⟨ox, od, J⟩ := ins_at I ha
  obtain ⟨oy, oe, L⟩ := ins_at I hb
  have hu : X.A.units < cLine := by have := hr.un; omega
  have hu1 : X.A.in1.units < cLine := by have := hr.in1.un; omega
  show wpAny _ _ (richCompare .NotEq (.ref a) (.ref b)) _ _ _
  have one : wpAny (model X.prog X.w) X.A (tryCompare (.ref a) (cmpInfo .NotEq).2.1 (.ref b)) (fun r s' => ∃ v, r = some v ∧ EP X pins σ Q v s') X.xe s := by
    unfold tryCompare
    refine wpAny_bind (m := callSpecialIfBound? (.ref a) (Str.ofString "__ne__") [.ref b]) (ifBound_b I.kIn J hne PySem.F.slot_object_ne.bind ?_)
    refine wpAny_call (codeAny_call_builtin PySem.F.slot_object_ne.plain PySem.F.entry_object_ne (check_slot (i := "object.__ne__") (owner := "object") (n := "__ne__") (by decide +kernel) (by decide +kernel) (J.type.andThen (looks_mroIn I.kIn hm)) (PySem.F.args_object_ne_2 _ _) ?_))
    unfold Builtin.«object.__ne__»
    refine wpAny_bind (m := slotArgs "__ne__" 1 _) (wpAny_pure ?_)
    refine wpAny_bind (m := cRoomFor _ _) (wpAny_cRoomFor hu1 ?_)
    refine wpAny_bind (m := callSpecialIfBound? (.ref a) (Str.ofString "__eq__") [.ref b]) (ifBound_K I.kIn J M.at_ M.fn (wpAny_mono (run_at M.ok M.b rfl hr.in1 I (.cons (show RelV (V.ref a) (Value.ref a) from rfl) (.cons (show RelV (V.ref b) (Value.ref b) from rfl) .nil)) h) (fun r s' z => ?_) fun _ _ z => z))
    obtain ⟨v', H', I', rv, c, rfl, q⟩ := z
    obtain rfl : r = Value.bool c := rv
    refine wpAny_bind (wpAny_truthy_bool (wpAny_pure ?_))
    exact wpAny_pure ⟨_, rfl, .bl (!c), H', I', rfl, q⟩
  unfold richCompare
  simp only [oneThing_ref]
  refine wpAny_holding (wpAny_bind (wpAny_cRoomFor hu ?_))
  refine wpAny_bind (J.type.here (wpAny_bind (L.type.here ?_)))
  have same : ((Value.ref C) != (Value.ref C)) = false := by simp
  rw [same]
  refine wpAny_bind (wpAny_pure ?_)
  simp only [Bool.false_eq_true, if_false]
  refine wpAny_bind (wpAny_mono one (fun r s' z => ?_) fun _ _ e => e)
  obtain ⟨v, rfl, hq⟩ := z
  exact wpAny_pure hq
end
end Own

set_option Elab.async false
set_option linter.all false
set_option maxRecDepth 100000
set_option maxHeartbeats 4000000
/-! bool(x) of an own instance. -/
namespace Own
open PySem PySem.Spec PyProof.Rows L2
section
variable {X : Cx} {pins : List (Addr × Obj)} {σ : L2.St} {H : Hp} {s : Shared} {C f : Addr} {fd : FuncData} {k : Nat} {ps : List Str} {sp : Sp}
/-- the truth within the builtins that the frame runs -/
theorem tru_at {A' : Around} {a : Addr} {Q : Bool → Hp → Prop} (hb : PySem.W.findIn X.K (.ref C) "__bool__" = some none) (M : Mt X.prog X.w X.K X.mg X.base C "__len__" k ps sp f fd) (frames : A'.frames = X.A.frames) (hr : Room (k + 1) A') (I : Inv X pins σ H s)
    (h : rTruOwn C sp (.ref a) H Q) : wpAny (model X.prog X.w) A' (truthy (.ref a)) (TP X pins σ Q) X.xe s := by
  obtain ⟨⟨_, dx, fs, e, ha⟩, h⟩ := h
  cases e
  obtain ⟨ox, od, J⟩ := ins_at I ha
  unfold truthy
  refine wpAny_bind (m := callSpecial? (.ref a) (Str.ofString "__bool__")) (wpAny_bind (wpAny_bind (J.type.here ((PySem.W.looks_findIn I.kIn hb).here (wpAny_pure ?_)))))
  refine wpAny_bind (wpAny_bind (J.type.here ((PySem.W.looks_findIn I.kIn M.at_).here ?_)))
  show wpAny _ _ (runValue (.builtin "len" ⟨[.ref a], []⟩) >>= _) _ _ _
  refine wpAny_bind (wpAny_runValue (codeAny_builtin PySem.entry_len ?_))
  rw [Around.under_plainId PySem.plain_len _]
  unfold Builtin.«len»
  refine wpAny_bind (m := oneArg "len" _) (wpAny_pure ?_)
  refine wpAny_bind (m := callSpecial? (.ref a) (Str.ofString "__len__")) (PySem.W.special_fn I.kIn J M.at_ (beq_iff_eq.mp M.fn) (wpAny_mono (run_at M.ok M.b frames hr.in1 I (.cons (show RelV (V.ref a) (Value.ref a) from rfl) .nil) h) (fun r s' z => ?_) fun _ _ z => z))
  obtain ⟨v', H', I', rv, n, rfl, hn, q⟩ := z
  obtain ⟨t, rfl⟩ := rv
  refine wpAny_bind (wpAny_holding (wpAny_pure ?_))
  refine wpAny_bind (wpAny_letGo ?_)
  show wpAny _ _ (if (n : Int) < 0 then _ else _) _ _ _
  rw [if_neg (by omega)]
  show wpAny _ _ (if (n : Int) ≥ 2 ^ 63 then _ else _) _ _ _
  rw [if_neg (by omega)]
  refine wpAny_bind (wpAny_mkInt (wpAny_pure ?_))
  exact wpAny_pure ⟨H', I'.tok _, q⟩
theorem call_boolOwn (hb : PySem.W.findIn X.K (.ref C) "__bool__" = some none) (M : Mt X.prog X.w X.K X.mg X.base C "__len__" k ps sp f fd) (hr : Room (k + 3) X.A) : CallR X (.type "bool") (fun xs H Q => ∃ a, xs = [.ref a] ∧ rTruOwn C sp (.ref a) H fun b H' => Q (.bl b) H') := by
  intro pins s σ H xs us Q I r h
  obtain ⟨a, rfl, h⟩ := h
  obtain rfl := Vals.ref1 r
  refine callType_codes (Q₁ := fun obj s1 => ∃ b, obj = Value.bool b ∧ TP X pins σ (fun b H' => Q (.bl b) H') b s1) F.called_bool (F.typeCall_bool_1 _) F.entry_object_init ?_ fun obj s1 z => ?_
  · refine codeAny_call_builtin F.called_bool.plain F.entry_bool_new (wpAny_of_eq (F.newCall_bool_1 _) ?_)
    unfold Builtin.«bool.__new__»
    have f1 := F.conv_sub_bool
    show wpAny _ _ (isType (Value.type "bool") >>= _) _ _ _
    refine wpAny_bind (wpAny_of_eq (show isType (Value.type "bool") = pure true from by kernel_rfl) ?_)
    dsimp only
    rw [if_neg (by decide)]
    refine wpAny_bind (wpAny_of_eq f1 ?_)
    rw [if_neg (by decide)]
    refine wpAny_bind (wpAny_of_eq (show someArgs "bool" 0 1 { pos := [Value.ref a] } = pure [Value.ref a] from by rfl) ?_)
    dsimp only
    refine wpAny_bind (wpAny_mono (tru_at (A' := X.A.in1.in1) hb M rfl hr.in1.in1 I h) (fun b s1 z => ?_) fun _ _ z => z)
    exact wpAny_pure ⟨b, rfl, z⟩
  · obtain ⟨b, rfl, H', I', q⟩ := z
    refine ⟨rfl, F.args_object_init_2 _ _, ?_⟩
    exact (object_init_meets F.called_bool.init.lookup F.called_bool.made F.newNe_bool) _ _ _ _ s1 ⟨rfl, rfl, .bl b, H', I', rfl, q⟩
end
end Own

set_option Elab.async false
set_option linter.all false
set_option maxRecDepth 100000
set_option maxHeartbeats 4000000
/-! x[y] of an own instance. -/
namespace Own
open PySem PySem.Spec PyProof.Rows L2
/-- x[y], y no slice -/
theorem pe_ixOwn {X : Cx} {C f : Addr} {fd : FuncData} {k : Nat} {ps : List Str} {sp : Sp} {a b : Expr} {ta tb : TE} {pos : Pos} (M : Mt X.prog X.w X.K X.mg X.base C "__getitem__" k ps sp f fd) (fi : PySem.W.fnIn X.K f = true) (hr : Room (k + 1) X.A) (ha : PE X a ta) (hb : PE X b tb)
    (hsl : ∀ v u : Value, subscripted b true v u = runValue (.builtin "lifetime.subscript" ⟨[v, u], []⟩) := by intro _ _; rfl) : PE X (.Subscript a b pos) (tOp (rIxOwn C sp) ta tb) := by
  refine ⟨fun pins s σ H Q I h => ?_⟩
  refine Subscript_ (binT ha hb I h fun v u s2 x y H2 I2 rx ry q => ?_)
  obtain ⟨⟨z, dx, fs, rfl, hz⟩, h⟩ := q
  cases rx
  obtain ⟨ox, od, J⟩ := ins_at I2 hz
  obtain ⟨m, fr⟩ := I2.fr
  exact PySem.W.sub_K fr I2.ok.mod.kin J M.at_ fi M.fn (run_at M.ok M.b rfl hr.in1 I2 (.cons (show RelV (V.ref z) (Value.ref z) from rfl) (.cons ry .nil)) h) (hsl _ _)
end Own

set_option Elab.async false
set_option linter.all false
set_option maxRecDepth 100000
set_option maxHeartbeats 4000000
/-! Table's signs: [ ], <=, <, >=, >. -/
namespace Tb
open PySem PySem.Spec PyProof.Rows L2 EvP Cm Fk DtE KyS XG
/-- what a table holds at a key -/
def wk (r : TRow) (k : List Key) : Int := (lookT r k).getD 0
/-- no worth of r is above that of r' -/
def leT (r r' : TRow) : Bool := (r.map (·.1)).all fun k => decide (wk r k ≤ wk r' k)
theorem tbl_ins {C : Addr} {H : Hp} {x : Addr} {ss xs : List Str} {r : TRow} (h : TblAt C H x ss xs r) : Own.Ins H (.ref x) C := by
  obtain ⟨dx, n1, n2, dw, p, prs, h1, _⟩ := h
  exact ⟨x, dx, _, rfl, h1⟩
/-- the class, asked of its own instances -/
structure TblI (K : PySem.W.Frag) (C : Addr) : Prop where
  ha : PySem.W.findIn K (.ref C) "__class__" = some (some (.builtin "object.__class__"))
  hn : PySem.W.specialIn K (.builtin "object.__class__") "__get__" = some (some (.builtin "getset_descriptor.__get__"))
  htk : PySem.W.takesIn K (.builtin "object.__class__") = some true
  hm : PySem.W.mroIn K C (.type "object") = some true
/-- a table's worths have pairs of names for keys -/
def RowOk (r : TRow) : Prop := ∀ t ∈ r, PairK t.1
def spTItem (C : Addr) : Sp := fun vs H Q _ => ∃ (x p : Addr) (ss xs : List Str) (r : TRow) (k : List Key), vs = [.ref x, .ref p] ∧ TblAt C H x ss xs r ∧ H p = some (.tup (k.map kV)) ∧ PairK k ∧ Q (.int (wk r k)) H
def spTOther (C : Addr) : Sp := fun vs H Q _ => ∃ (x : Addr) (ss xs : List Str) (r : TRow), vs = [.ref x] ∧ TblAt C H x ss xs r ∧ Q .non H
/-- two tables -/
def spTwo (C : Addr) (f : TRow → TRow → Bool) : Sp := fun vs H Q _ => ∃ (x y : Addr) (ss xs ss' xs' : List Str) (r r' : TRow), vs = [.ref x, .ref y] ∧ TblAt C H x ss xs r ∧ TblAt C H y ss' xs' r' ∧ RowOk r ∧ RowOk r' ∧ r.length ≤ 100 ∧ r'.length ≤ 100 ∧ ∀ H', Ex H H' → Q (.bl (f r r')) H'
abbrev sTItem : Stmt := tmeth 4
abbrev sTLe : Stmt := tmeth 15
abbrev sTLt : Stmt := tmeth 16
abbrev sTGe : Stmt := tmeth 17
abbrev sTGt : Stmt := tmeth 18
abbrev sTOther : Stmt := top 37
abbrev NL : List Str := ["self", "other", "pair"]
theorem scTItem : FnScope ["self", "at"] ["self", "at"] (defScope sTItem) := ⟨rfl, rfl, rfl, by decide +kernel, rfl, by decide +kernel, by decide +kernel⟩
theorem scTOther : FnScope ["other"] ["other"] (defScope sTOther) := ⟨rfl, rfl, rfl, by decide +kernel, rfl, by decide +kernel, by decide +kernel⟩
theorem scTLe : FnScope NL ["self", "other"] (defScope sTLe) := ⟨rfl, rfl, rfl, by decide +kernel, rfl, by decide +kernel, by decide +kernel⟩
theorem scTLt : FnScope ["self", "other"] ["self", "other"] (defScope sTLt) := ⟨rfl, rfl, rfl, by decide +kernel, rfl, by decide +kernel, by decide +kernel⟩
theorem scTGe : FnScope ["self", "other"] ["self", "other"] (defScope sTGe) := ⟨rfl, rfl, rfl, by decide +kernel, rfl, by decide +kernel, by decide +kernel⟩
theorem scTGt : FnScope ["self", "other"] ["self", "other"] (defScope sTGt) := ⟨rfl, rfl, rfl, by decide +kernel, rfl, by decide +kernel, by decide +kernel⟩
/-- a key from what its tuple holds -/
def unK (ys : List V) : List Key := ys.map fun v => match v with
  | .str x => Sum.inr x
  | .int i => Sum.inl i
  | _ => Sum.inl 0
theorem unK_kV (k : List Key) : unK (k.map kV) = k := by
  unfold unK
  rw [List.map_map]
  have : ∀ y ∈ k, ((fun v : V => match v with
    | .str x => (Sum.inr x : Key)
    | .int i => Sum.inl i
    | _ => Sum.inl 0) ∘ kV) y = y := fun y _ => by cases y <;> rfl
  exact (List.map_congr_left this).trans (List.map_id k)
def byH (H : Hp) (g : List Key → V) : V → V
  | .ref b => match H b with
    | some (.tup ys) => g (unK ys)
    | _ => .non
  | _ => .non
theorem byH_of {H : Hp} {g : List Key → V} {b : Addr} {k : List Key} (h : H b = some (.tup (k.map kV))) : byH H g (.ref b) = g k := by
  show (match H b with
    | some (.tup ys) => g (unK ys)
    | _ => .non) = _
  rw [h]
  show g (unK (k.map kV)) = _
  rw [unK_kV]
theorem byH_all {H : Hp} {g : List Key → V} : ∀ {ks : List (List Key)} {prs : List V}, All2 H (ks.map fun k => tupV (k.map kV)) prs → prs.map (byH H g) = ks.map g
  | [], _, .nil => rfl
  | k :: ks, _, .cons ⟨a, ev, ha⟩ t => by
    subst ev
    rw [List.map_cons, List.map_cons, byH_of ha, byH_all t]
theorem all2_in {H : Hp} : ∀ {ks : List (List Key)} {prs : List V}, All2 H (ks.map fun k => tupV (k.map kV)) prs → ∀ v ∈ prs, ∃ k ∈ ks, ∃ b, v = .ref b ∧ H b = some (.tup (k.map kV))
  | [], _, .nil, v, h => by cases h
  | k :: ks, _, .cons ⟨a, ev, ha⟩ t, v, h => by
    rcases List.mem_cons.mp h with rfl | h
    · exact ⟨k, .head _, a, ev, ha⟩
    · obtain ⟨k', h1, h2⟩ := all2_in t v h
      exact ⟨k', .tail _ h1, h2⟩
section
variable {P : Program} {w : World} {K : PySem.W.Frag} {mg : Str → Option Value} {base : Heap} {C f fN fI : Addr} {fd fdN fdI : FuncData} {σ : L2.St} {H : Hp}
theorem ok_titem (F : Fun K "__getitem__" "Table.__getitem__" sTItem f fd) (S : TblC K C) (G : FnOk P w K mg base CX0 2 fN fdN ["value"] (spPair K)) (b : Binds K fdN ["value"] []) (gN : mg "is_pair" = some (.ref fN)) (kN : PySem.W.keepIn K (.ref fN) = true) :
    FnOk P w K mg base CX0 3 f fd ["self", "at"] (spTItem C) := by
  refine F.ok scTItem (fun vs H Q E h => ?_) (fun cdv A outer s H vs Q E hr h => ?_)
  · obtain ⟨x, p, ss, xs, r, k, rfl, _⟩ := h
    rfl
  · obtain ⟨x, p, ss, xs, r, k, rfl, ⟨dx, n1, n2, dw, pp, prs, h1, h2, h3, h4, h5, h6⟩, hp, pk, q⟩ := h
    refine ⟨_, pss_cons (ps_if (pt_not (pt_val (pe_call G hr (by rfl) gN kN b .nil pass0 (pa_cons (pv 1) pa_nil)))) (pss_one ps_dead) pss_nil)
      (pss_one (ps_ret (pe_dget2 (hu_of hr) (pe_fld (pv 0) rfl) (pv 1) pe_int ⟨rfl, rfl, rfl, rfl⟩))), ?_⟩
    obtain ⟨a, y, rfl, na, ny⟩ := pk
    refine ⟨_, rfl, p, a, y, rfl, hp, na, ny, _, rfl, ?_⟩
    refine ⟨_, rfl, x, C, dx, _, _, rfl, h1, S.cl, S.nW, rfl, dw, rfl, .inr ⟨_, .inl h4⟩, _, rfl, _, DGet.t h4 hp, ?_⟩
    rw [valV_tents]
    unfold wk at q
    cases hl : lookT r (key2 a y) with
    | none =>
      rw [hl] at q
      exact q
    | some m =>
      rw [hl] at q
      exact q
theorem ok_tother (F : Fun K "check_other" "check_other" sTOther f fd) (S : TblC K C) (SI : TblI K C) (T : Blt mg) (gS : mg "Table" = some (.ref C)) : FnOk P w K mg base CX0 1 f fd ["other"] (spTOther C) := by
  refine F.ok scTOther (fun vs H Q E h => ?_) (fun cdv A outer s H vs Q E hr h => ?_)
  · obtain ⟨x, ss, xs, r, rfl, _⟩ := h
    rfl
  · obtain ⟨x, ss, xs, r, rfl, ⟨dx, n1, n2, dw, pp, prs, h1, _⟩, q⟩ := h
    refine ⟨_, pss_one (ps_if (pt_not (pt_val (pe_callB call_isi (by rfl) T.isi (by decide +kernel) (pa_cons (pv 0) (pa_cons (pe_glob (v := .ref C) (by rfl) gS rfl) pa_nil))))) (pss_one ps_dead) pss_nil), ?_⟩
    exact ⟨_, rfl, _, _, _, _, true, rfl, .own C, .base (.ins h1 S.cl SI.ha SI.hn SI.htk SI.hm), (by
      unfold PySem.W.kitOne
      rw [if_pos (by simp)]), _, rfl, q⟩
theorem g_tix {i j : Nat} {x b : Addr} {ss xs : List Str} {r : TRow} {k : List Key} (hi : σ[i]? = some (some (.ref x))) (hj : σ[j]? = some (some (.ref b))) (sa : TblAt C H x ss xs r) (hb : H b = some (.tup (k.map kV))) (pk : PairK k) :
    EvP.Gives (tOp (Own.rIxOwn C (spTItem C)) (tVar i) (tVar j)) σ H (is (.int (wk r k))) := fun H1 e Q q =>
  ⟨_, hi, _, hj, tbl_ins (sa.mono e), x, b, ss, xs, r, k, rfl, sa.mono e, e _ _ hb, pk, q _ _ (Ex.refl H1) rfl⟩
theorem perm_all {α : Type} {l m : List α} (p : l.Perm m) (f : α → Bool) : l.all f = m.all f := by
  rw [Bool.eq_iff_iff, List.all_eq_true, List.all_eq_true]
  exact ⟨fun h x hx => h x (p.mem_iff.mpr hx), fun h x hx => h x (p.mem_iff.mp hx)⟩
theorem ok_tle (F : Fun K "__le__" "Table.__le__" sTLe f fd) (S : TblC K C) (M : Own.Mt P w K mg base C "__getitem__" 3 ["self", "at"] (spTItem C) fI fdI) (MF : PySem.W.fnIn K fI = true) (hA : mg "all" = none)
    (GO : FnOk P w K mg base CX0 1 fN fdN ["other"] (spTOther C)) (bO : Binds K fdN ["other"] []) (gO : mg "check_other" = some (.ref fN)) (kO : PySem.W.keepIn K (.ref fN) = true) : FnOk P w K mg base CX0 5 f fd ["self", "other"] (spTwo C leT) := by
  have nd := scTLe.nd
  refine F.ok scTLe (fun vs H Q E h => ?_) (fun cdv A outer s H vs Q E hr h => ?_)
  · obtain ⟨x, y, ss, xs, ss', xs', r, r', rfl, _⟩ := h
    rfl
  · obtain ⟨x, y, ss, xs, ss', xs', r, r', rfl, sa, sb, or1, or2, l1, l2, q⟩ := h
    refine ⟨_, pss_cons (ps_expr (pe_call GO (hr.mono (by decide)) (by rfl) gO kO bO .nil pass0 (pa_cons (pv 1) pa_nil)))
      (pss_one (ps_ret (pe_callB (cr_all rfl) (by rfl) hA (by decide +kernel) (pa_cons (pe_lc (own := [("pair", 2)]) (g := gName 2) (tt := tYes) (te := tOp (rI0 fun i j => .bl (decide (i ≤ j))) (tOp (Own.rIxOwn C (spTItem C)) (tVar 0) (tVar 2)) (tOp (Own.rIxOwn C (spTItem C)) (tVar 1) (tVar 2))) rfl nd (pi_tup (pe_fld (pv 0) rfl)) (blkOk_by (N := NL) (sc := defScope sTLe) (by decide +kernel))
        (fun _ _ _ _ _ => pg_name (i := 2) nd rfl (Or.inl rfl)) (fun _ _ _ _ _ => pts_nil) (fun _ _ _ _ _ => pe_cmpR op_le (Own.pe_ixOwn M MF hr (pv 0) (pv 2)) (Own.pe_ixOwn M MF hr (pv 1) (pv 2)) (nomark _))) pa_nil)))), ?_⟩
    refine ⟨_, rfl, y, ss', xs', r', rfl, sb, ?_⟩
    dsimp only
    have sa' := sa
    obtain ⟨dx, n1, n2, dw, pp, prs, h1, h2, h3, h4, h5, h6⟩ := sa'
    have lp : prs.length ≤ 1000 := by
      rw [h6.length, List.length_map]
      unfold sortK
      rw [(List.mergeSort_perm _ _).length_eq, List.length_map]
      omega
    have w0 : Walks (iTup K (tFld K (tVar 0) "pairs")) [some (.ref x), some (.ref y), none] H prs := walks_tup (g_fld rfl h1 S.cl S.nP rfl (⟨pp, rfl, h5⟩ : (tupV prs).R (.ref pp) H))
    have z := comp_is (te := tOp (rI0 fun i j => .bl (decide (i ≤ j))) (tOp (Own.rIxOwn C (spTItem C)) (tVar 0) (tVar 2)) (tOp (Own.rIxOwn C (spTItem C)) (tVar 1) (tVar 2))) (tt := tYes) (i := 2) (vs := [2]) (fun _ => true) (byH H fun k => .bl (decide (wk r k ≤ wk r' k))) w0 lp (fun _ => rfl) (fun _ _ H2 _ Q h => h) (fun v hv _ => by
      obtain ⟨k, hk, b, rfl, hb⟩ := all2_in h6 v hv
      rw [byH_of hb]
      have pk : PairK k := by
        unfold sortK at hk
        obtain ⟨t, ht, rfl⟩ := List.mem_map.mp ((List.mergeSort_perm _ _).mem_iff.mp hk)
        exact or1 t ht
      exact g_op (P := is (.int (wk r k))) (R := is (.int (wk r' k))) (g_tix rfl rfl sa hb pk) (g_tix rfl rfl sb hb pk) fun a c H1 e ea ec Q k => ⟨_, _, ea, ec, k _ _ (Ex.refl _) rfl⟩)
    rw [List.filter_eq_self.mpr (fun _ _ => rfl), byH_all h6] at z
    have eb : (sortK (r.map (·.1))).map (fun k => V.bl (decide (wk r k ≤ wk r' k))) = ((sortK (r.map (·.1))).map fun k => decide (wk r k ≤ wk r' k)).map V.bl := by
      rw [List.map_map]
      rfl
    rw [eb] at z
    have ea : ((sortK (r.map (·.1))).map fun k => decide (wk r k ≤ wk r' k)).all id = leT r r' := by
      rw [List.all_map]
      exact perm_all (List.mergeSort_perm _ _) _
    refine' EvP.st_ret (P := is (.bl (leT r r'))) (g_call z ?h2) ?k
    case h2 =>
      rintro v H1 e1 ⟨l, rfl, hl⟩ Q k
      refine ⟨l, _, rfl, SqL.of hl, ?_⟩
      rw [ea]
      exact k _ _ (Ex.refl _) rfl
    case k =>
      intro v H1 e1 ev
      rw [show v = _ from ev]
      exact q H1 e1
theorem ok_tlt (F : Fun K "__lt__" "Table.__lt__" sTLt f fd) {fL : Addr} {dL : FuncData} (ML : Own.Mt P w K mg base C "__le__" 5 ["self", "other"] (spTwo C leT) fL dL) : FnOk P w K mg base CX0 6 f fd ["self", "other"] (spTwo C fun r r' => leT r r' && !leT r' r) := by
  refine F.ok scTLt (fun vs H Q E h => ?_) (fun cdv A outer s H vs Q E hr h => ?_)
  · obtain ⟨x, y, ss, xs, ss', xs', r, r', rfl, _⟩ := h
    rfl
  · obtain ⟨x, y, ss, xs, ss', xs', r, r', rfl, sa, sb, or1, or2, l1, l2, q⟩ := h
    refine ⟨_, pss_one (ps_ret (pe_and (pe_cmpR (Own.cmp_own (op := .LtE) ML hr) (pv 0) (pv 1) (nomark _)) (pe_one (pe_not (pe_cmpR (Own.cmp_own (op := .LtE) ML hr) (pv 1) (pv 0) (nomark _)))))), ?_⟩
    refine ⟨_, rfl, _, rfl, tbl_ins sa, tbl_ins sb, x, y, ss, xs, ss', xs', r, r', rfl, sa, sb, or1, or2, l1, l2, fun H1 e1 => ⟨_, rfl, ?_⟩⟩
    cases hl : leT r r' with
    | false =>
      have this : Q (.bl (leT r r' && !leT r' r)) H1 := q H1 e1
      rw [hl] at this
      exact this
    | true =>
      refine ⟨_, rfl, _, rfl, tbl_ins (sb.mono e1), tbl_ins (sa.mono e1), y, x, ss', xs', ss, xs, r', r, rfl, sb.mono e1, sa.mono e1, or2, or1, l2, l1, fun H2 e2 => ⟨_, rfl, ?_⟩⟩
      have this : Q (.bl (leT r r' && !leT r' r)) H2 := q H2 (e1.trans e2)
      rw [hl] at this
      exact this
theorem ok_tge (F : Fun K "__ge__" "Table.__ge__" sTGe f fd) {fL : Addr} {dL : FuncData} (ML : Own.Mt P w K mg base C "__le__" 5 ["self", "other"] (spTwo C leT) fL dL)
    (GO : FnOk P w K mg base CX0 1 fN fdN ["other"] (spTOther C)) (bO : Binds K fdN ["other"] []) (gO : mg "check_other" = some (.ref fN)) (kO : PySem.W.keepIn K (.ref fN) = true) : FnOk P w K mg base CX0 6 f fd ["self", "other"] (spTwo C fun r r' => leT r' r) := by
  refine F.ok scTGe (fun vs H Q E h => ?_) (fun cdv A outer s H vs Q E hr h => ?_)
  · obtain ⟨x, y, ss, xs, ss', xs', r, r', rfl, _⟩ := h
    rfl
  · obtain ⟨x, y, ss, xs, ss', xs', r, r', rfl, sa, sb, or1, or2, l1, l2, q⟩ := h
    refine ⟨_, pss_cons (ps_expr (pe_call GO (hr.mono (by decide)) (by rfl) gO kO bO .nil pass0 (pa_cons (pv 1) pa_nil))) (pss_one (ps_ret (pe_cmpR (Own.cmp_own (op := .LtE) ML hr) (pv 1) (pv 0) (nomark _)))), ?_⟩
    exact ⟨_, rfl, y, ss', xs', r', rfl, sb, _, rfl, _, rfl, tbl_ins sb, tbl_ins sa, y, x, ss', xs', ss, xs, r', r, rfl, sb, sa, or2, or1, l2, l1, q⟩
theorem ok_tgt (F : Fun K "__gt__" "Table.__gt__" sTGt f fd) {fL : Addr} {dL : FuncData} (ML : Own.Mt P w K mg base C "__lt__" 6 ["self", "other"] (spTwo C fun r r' => leT r r' && !leT r' r) fL dL)
    (GO : FnOk P w K mg base CX0 1 fN fdN ["other"] (spTOther C)) (bO : Binds K fdN ["other"] []) (gO : mg "check_other" = some (.ref fN)) (kO : PySem.W.keepIn K (.ref fN) = true) : FnOk P w K mg base CX0 7 f fd ["self", "other"] (spTwo C fun r r' => leT r' r && !leT r r') := by
  refine F.ok scTGt (fun vs H Q E h => ?_) (fun cdv A outer s H vs Q E hr h => ?_)
  · obtain ⟨x, y, ss, xs, ss', xs', r, r', rfl, _⟩ := h
    rfl
  · obtain ⟨x, y, ss, xs, ss', xs', r, r', rfl, sa, sb, or1, or2, l1, l2, q⟩ := h
    refine ⟨_, pss_cons (ps_expr (pe_call GO (hr.mono (by decide)) (by rfl) gO kO bO .nil pass0 (pa_cons (pv 1) pa_nil))) (pss_one (ps_ret (pe_cmpR (Own.cmp_own (op := .Lt) ML hr) (pv 1) (pv 0) (nomark _)))), ?_⟩
    exact ⟨_, rfl, y, ss', xs', r', rfl, sb, _, rfl, _, rfl, tbl_ins sb, tbl_ins sa, y, x, ss', xs', ss, xs, r', r, rfl, sb, sa, or2, or1, l2, l1, q⟩
end
end Tb

set_option Elab.async false
set_option linter.all false
set_option maxRecDepth 100000
set_option maxHeartbeats 4000000
/-! An own instance is walked: its __iter__ hands back the iterator of a tuple. -/
namespace Own
open PySem PySem.Spec PyProof.Rows L2 ItX
/-- at it an iterator over the tuple at t, at its start -/
def ItT (t it : Addr) : HO := .ext fun h => h.IsTupleIter it t 0
theorem itT_ok {P : Program} {w : World} {H : Hp} {h : Heap} {t it : Addr} (e : h.IsTupleIter it t 0) : ObjOk P w H h it (ItT t it) := by
  obtain ⟨o, ho, r⟩ := e
  exact ⟨⟨o, ho, r⟩, ⟨o, ho⟩, fun h1 h2 z k => by
    obtain ⟨o1, e1, r1⟩ := z
    exact ⟨o1, k _ e1, r1⟩⟩
section
variable {X : Cx} {pins : List (Addr × Obj)} {σ : L2.St} {H : Hp} {s : Shared}
theorem itT_get {t it : Addr} (I : Inv X pins σ H s) (e : H it = some (ItT t it)) : s.heap.IsTupleIter it t 0 := by
  have x : ObjOk X.prog X.w H s.heap it (.ext fun h => h.IsTupleIter it t 0) := I.hok it _ e
  exact x.1
/-- iter(t), t a tuple; n: what the heap held when the def began -/
def rIterT (K : PySem.W.Frag) (n : Nat) : List V → Hp → VK → Prop := fun xs H Q => ∃ (t : Addr) (zs : List V), xs = [.ref t] ∧ SqT K H t zs ∧ ∀ it, H it = none → n ≤ it → Q (.ref it) (upd H it (ItT t it))
theorem call_iterT : CallR X (.builtin "iter") (rIterT X.K X.s_0.heap.objs.size) := by
  intro pins s σ H xs us Q I r h
  obtain ⟨t, zs, rfl, hq, q⟩ := h
  obtain ⟨u, rfl, ru⟩ := vals1 r
  cases ru
  obtain ⟨its, rv, p, hz⟩ := I.tuple hq
  refine Calls.call_function_entry (by decide +kernel) (by decide +kernel) PySem.W.kdk_entry_iter (PySem.W.kdk_args_iter _) ?_
  unfold Builtin.«iter»
  refine wpAny_bind (m := someArgs "iter" 1 2 _) (wpAny_of_eq (a := [Value.ref t]) (by first | rfl | kernel_rfl!) ?_)
  show wpAny _ _ (pyIter (.ref t) >>= _) _ _ _
  refine wpAny_bind (wpAny_pyIter_tuple (show s.heap.IsTuple t its.toArray from p) (wpAny_pure ⟨_, rfl, ?_⟩))
  have new : (s.heap.push { cls := .type "tuple_iterator", data := .fields #[.ref t, .int 0 0] }).IsTupleIter s.heap.objs.size t 0 := ⟨_, Heap.get?_push_size _ rfl, rfl, rfl⟩
  exact ⟨.ref s.heap.objs.size, _, I.laid (t' := s.toks) (fun b u e => Heap.get?_push_of_some _ e) (Nat.le_refl _) (itT_ok new), rfl, q _ (I.hok.fresh (Nat.le_refl _)) I.sz⟩
end
section
variable {P : Program} {w : World} {K : PySem.W.Frag} {mg : Str → Option Value} {base : Heap} {k : Nat} {f : Addr} {fd : FuncData} {ps : List Str}
/-- a def whose promise may speak of the size of the heap at its call -/
structure FnZ (P : Program) (w : World) (K : PySem.W.Frag) (mg : Str → Option Value) (base : Heap) (k : Nat) (f : Addr) (ps : List Str) (fd : FuncData) (sp : Nat → Sp) : Prop where
  run : ∀ (A : Around) (outer : List Env) (s : Shared) (H : Hp) (args : Args) (us : List Value) (vs : List V) (Q : VK), Room k A → Env0 P w K mg base A outer s H →
    BindsTo s fd args (ps.zip us) → Vals vs us → vs.length = ps.length → sp s.heap.objs.size vs H Q E0 → codeAny (model P w) A (.call (.ref f) args) (CR CX0 outer P w H s Q E0) s
theorem Fun.okZ {sp : Nat → Sp} {x qual : Str} {st : Stmt} {N : List Str} (F : Fun K x qual st f fd) (S : FnScope N ps (defScope st))
    (walk : ∀ (cdv : Value) (A : Around) (outer : List Env) (s : Shared) (H : Hp) (vs : List V) (Q : VK), Room k (A.deeper (envOfC qual (defScope st) s.heap.objs.size f cdv)) → sp s.heap.objs.size vs H Q E0 →
      ∃ t, PSs (cxOf CX0 P w K mg base N qual (defScope st) f cdv A outer s H E0).nox (defBody st) t ∧ t { nx := fun _ H' => Q .non H', rt := Q } (start N vs) H) : FnZ P w K mg base (k + 1) f ps fd sp := by
  obtain ⟨oc, od, kV, doc, pm, an, cdv, ct, osl, rfl, lk, hcd⟩ := F.ex
  refine ⟨fun A outer s H args us vs Q room e0 bd r n1 h => ?_⟩
  have inH : ∀ b o, base.get? b = some o → s.heap.get? b = some o := fun b o e => (e0.bs b o e).1
  have kin : K.In s.heap := e0.mod.kin.keeps inH
  have par : ∀ y ∈ ps.zip us, (defScope st).names.lookup y.1 = some .local ∨ ((defScope st).names.lookup y.1 = some .cell ∧ ((cellsFrom (s.heap.objs.size + 1) (defScope st).names []).lookup y.1).isSome = true) := by
    rintro ⟨y, z⟩ hy
    exact (S.par y (List.of_mem_zip hy).1).imp id fun q => ⟨q, PySem.W.cellsFrom_some _ _ _ (.inl q)⟩
  refine codeAny_call_function room.depth (kin _ _ lk) rfl S.co S.gen rfl (PySem.W.codeRec_of kin hcd) (bd _ _ _ _ (wpAny_newFunctionEnv_cells S.kind par fun env he s1 z => ?_))
  subst he
  refine ⟨(e0.mod.nolimit.keeps inH).keeps z.toInCall.keep, codeAny_func ?_⟩
  obtain ⟨t, ok, ends⟩ := walk cdv A outer s H vs Q (room.deeper _) h
  have J := inv_start (CX := CX0) (E := E0) S room.hd e0 n1 r z
  refine wpAny_mono (ok.nox.run [] s1 _ H _ J ends) (fun fl s' q => ?_) fun e s' q => q
  rcases fl with u | _ | _ | _
  all_goals first
    | (obtain ⟨v, σ', H', J', rv, q⟩ := q; exact ⟨v, H', J'.os, J'.bare, J'.base, J'.hok, rv, q⟩)
    | (obtain ⟨σ', H', J', q⟩ := q; exact ⟨V.non, H', J'.os, J'.bare, J'.base, J'.hok, rfl, q⟩)
    | (obtain ⟨_, _, _, q⟩ := q; exact q.elim)
end
section
variable {X : Cx} {C f : Addr} {fd : FuncData} {k : Nat} {ps : List Str} {sp : Nat → Sp} {tg e : Expr} {te : TE}
/-- for .. in e, e an own instance -/
def iOwn (K : PySem.W.Frag) (C : Addr) (sp : Nat → Sp) (te : TE) : TI := fun σ H R => te σ H fun x H1 => Ins H1 x C ∧ ∀ n, sp n [x] H1 (fun v H2 => ∃ it t, v = .ref it ∧ H2 it = some (ItT t it) ∧ n ≤ it ∧ R (Itt K t) (dropH H2 it)) E0
theorem pi_own (at_ : PySem.W.findIn X.K (.ref C) "__iter__" = some (some (.ref f))) (fn : PySem.W.isFn X.K (.ref f) = true) (F : FnZ X.prog X.w X.K X.mg X.base k f ["self"] fd sp) (b : Binds X.K fd ["self"] []) (hr : Room k X.A) (he : PE X e te) : PI X tg e (iOwn X.K C sp te) := by
  refine ⟨fun pins s σ H R I h => thn (he.run pins s σ H _ I h) fun v s1 ⟨x, H1, I1, r1, ⟨a, dx, fs, ex, ha⟩, q⟩ => ?_⟩
  subst ex
  cases r1
  obtain ⟨ox, od, J⟩ := ins_at I1 ha
  obtain ⟨m, fr⟩ := I1.fr
  have e0 := I1.env0
  refine PySem.W.owit_iter fr I1.ok.mod.kin J at_ fn (wpAny_call (codeAny_mono (F.run X.A X.stack s1 H1 ⟨[.ref a], []⟩ [.ref a] [.ref a] _ hr e0 (b s1 [.ref a] I1.kIn rfl) (.cons rfl .nil) rfl (q s1.heap.objs.size)) fun r s' z => ?_))
  cases r with
  | error e => exact (show False from z).elim
  | ok fl =>
    cases fl with
    | next => exact (show False from z).elim
    | brk => exact (show False from z).elim
    | cont => exact (show False from z).elim
    | ret u =>
      obtain ⟨v, H2, I2, rv, it, t, rfl, hi, hn, hR⟩ := I1.after z
      cases rv
      have st := itT_get I2 hi
      obtain ⟨o, ho, hc, hd⟩ := id st
      show PySem.W.OwitIt _ _ _ _ _ _
      unfold PySem.W.OwitIt specialOf
      have ty : s'.TypeIs (.ref it) "tuple_iterator" := ⟨o, ho, hc⟩
      refine wpAny_bind (wpAny_typeOf ty ?_)
      rw [PySem.F.slot_tuple_iterator_next.lookup]
      refine wpAny_pure ?_
      have hi' := hi
      unfold ItT at hi'
      refine ⟨it, [it], _, _, dropH H2 it, rfl, inv_drop I2 hi', turn_tuple t it, st, fun b hb => ?_, hR⟩
      obtain rfl : b = it := by simpa using hb
      exact inv_fp I2 hi (Nat.le_trans I1.sz hn)
end
end Own

set_option Elab.async false
set_option linter.all false
set_option maxRecDepth 100000
set_option maxHeartbeats 4000000
/-! list(x), x an own instance: its __iter__ hands back the iterator of a tuple, its __len__ tells an integer. -/
namespace Own
open PySem PySem.Spec PyProof.Rows L2 ItX
section
variable {X : Cx} {pins : List (Addr × Obj)} {σ : L2.St}
theorem fp_upd {H : Hp} {q it : Addr} {o : HO} (h : FpOk X pins H it) (ne : it ≠ q) : FpOk X pins (upd H q o) it := ⟨by rw [upd_ne ne]; exact h.1, h.2⟩
theorem it_loop {A1 : Around} {q t it : Addr} {zs : List V} {Rs : Result → Shared → Prop} (hh : A1.handled = none) (hz : zs.length ≤ sizeLine) :
    ∀ (k i : Nat) (H : Hp) (s : Shared), zs.length - i = k → i ≤ zs.length → Inv X pins σ H s → H q = some (.lst (zs.take i)) → SqT X.K H t zs → t ≠ q → FpOk X pins H it → s.heap.IsTupleIter it t i →
      (∀ s', Inv X pins σ (upd H q (.lst zs)) s' → Rs (.ok (.ret .none)) s') → codeAny (model X.prog X.w) A1 (.builtin "list.extend.loop" ⟨[.ref q, .ref it, .none], []⟩) Rs s := by
  intro k
  induction k with
  | zero =>
    intro i H s hk hi I hq ht tq hf st hR
    have e : i = zs.length := by omega
    subst e
    rw [List.take_length] at hq
    have eH : upd H q (.lst zs) = H := by
      funext b
      by_cases hb : b = q
      · rw [hb, upd_same, hq]
      · rw [upd_ne hb]
    rw [eH] at hR
    obtain ⟨its, rv, p, _⟩ := I.tuple ht
    obtain ⟨f0, f1, f2, f3, f4, f5⟩ := hf
    have hl := rv.length
    refine codeAny_builtin PySem.F.entry_extend_loop ?_
    rw [Around.under_plainId PySem.F.plain_extend_loop _]
    show wpAny _ A1.in1 (pyNext (.ref it) >>= _) _ _ s
    refine wpAny_bind (wpAny_pyNext_tuple_end (show A1.in1.handled = none from hh) st (show s.heap.IsTuple t its.toArray from p) (by simp; omega) fun h' eb => ?_)
    exact wpAny_pure (hR _ (I.turned (t' := s.toks) (fun b o hb e => eb b o hb e) f0 f1 f3 f4 f5))
  | succ k ih =>
    intro i H s hk hi I hq ht tq hf st hR
    have hlt : i < zs.length := by omega
    have hx : zs[i]? = some zs[i] := List.getElem?_eq_getElem hlt
    obtain ⟨its, rv, p, _⟩ := I.tuple ht
    obtain ⟨u, hu, ru⟩ := rv.get hx
    have hf' := hf
    obtain ⟨f0, f1, f2, f3, f4, f5⟩ := hf
    have iq : it ≠ q := fun z => by
      rw [z, hq] at f0
      cases f0
    refine codeAny_builtin PySem.F.entry_extend_loop ?_
    rw [Around.under_plainId PySem.F.plain_extend_loop _]
    show wpAny _ A1.in1 (pyNext (.ref it) >>= _) _ _ s
    refine wpAny_bind (wpAny_pyNext_tuple_item st (show s.heap.IsTuple t its.toArray from p) (x := u) (by simpa using hu) fun h' st' sb => ?_)
    have I1 : Inv X pins σ H { s with heap := h' } := I.turned (t' := s.toks) (fun b o hb e => (sb.2 b hb).trans e) f0 f1 f3 f4 f5
    show wpAny _ A1.in1 (updateSeq q (·.push u) >>= _) _ _ _
    obtain ⟨z, its2, n2, r2, hl2, e2⟩ := I1.lstM hq
    have lt2 : its2.length < sizeLine := by
      rw [← hl2, List.length_take]
      omega
    refine wpAny_bind (wpAny_updateSeq e2 rfl (wpAny_pure ⟨plainId_quiet PySem.F.plain_extend_loop _, ?_⟩) (by rw [List.size_toArray]; omega) (by show (its2.toArray.push u).size ≤ sizeLine + 1; rw [Array.size_push, List.size_toArray]; omega))
    have tk : zs.take (i + 1) = zs.take i ++ [zs[i]] := by rw [List.take_add_one, hx]; rfl
    refine ih (i + 1) (upd H q (.lst (zs.take (i + 1)))) _ (by omega) (by omega) ?_ upd_same ?_ tq (fp_upd hf' iq) ?_ fun s' I' => hR s' (by rw [upd_upd] at I'; exact I')
    · rw [tk]
      exact I1.lset (its' := its2 ++ [u]) (t' := s.toks) hq e2 (by simp) (r2.append (.cons ru .nil)) (by rw [List.length_append, List.length_singleton, List.length_take]; omega)
    · rcases ht with ht | ht
      · refine .inl ?_
        rcases ht with ht | ⟨o, ht⟩
        · exact .inl (by rw [upd_ne tq]; exact ht)
        · exact .inr ⟨o, by rw [upd_ne tq]; exact ht⟩
      · exact .inr ht
    · exact st'.at fun o e => (Heap.get?_update_other _ _ (Ne.symm iq)).trans e
end
section
variable {X : Cx} {pins : List (Addr × Obj)} {σ : L2.St} {H : Hp} {s : Shared} {f : Addr} {fd : FuncData} {k : Nat} {ps : List Str} {sp : Sp}
/-- the call of a def that lets nothing out, wherever an error would go -/
theorem run_atE {A' : Around} {E : Value → Shared → Prop} {vs : List V} {us : List Value} {Q : VK} (F : FnOk X.prog X.w X.K X.mg X.base CX0 k f fd ps sp) (b : Binds X.K fd ps []) (frames : A'.frames = X.A.frames) (hr : Room k A') (I : Inv X pins σ H s) (r : Vals vs us) (h : sp vs H Q E0) :
    wpAny (model X.prog X.w) A' (call (.ref f) us) (EP X pins σ Q) E s := by
  have e := I.env0
  have n : (us ++ []).length = ps.length := by rw [List.append_nil, ← r.length]; exact F.len _ _ _ _ h
  refine wpAny_call (codeAny_mono (F.run A' X.stack s H ⟨us, []⟩ (us ++ []) vs Q E0 hr ⟨frames.trans e.frames, e.mod, e.bs, e.bsz, e.funs, e.frf, e.hok, e.bare⟩ (b s us I.kIn n) (by rw [List.append_nil]; exact r) h) fun r s' q => ?_)
  cases r with
  | error e => exact (show False from q).elim
  | ok fl =>
    cases fl with
    | ret u => exact I.after q
    | next => exact (show False from q).elim
    | brk => exact (show False from q).elim
    | cont => exact (show False from q).elim
end
section
variable {X : Cx} {C fI fL : Addr} {fdI fdL : FuncData} {kI kL : Nat} {psI psL : List Str} {spI : Nat → Sp} {spN : Sp}
/-- list(x): n is what the heap holds when __iter__ begins -/
def rListIt (K : PySem.W.Frag) (C : Addr) (spI : Nat → Sp) (spN : Sp) : List V → Hp → VK → Prop := fun xs H Q => ∃ x, xs = [x] ∧ Ins H x C ∧ ∀ q, H q = none → ∀ n, spI n [x] (upd H q (.lst [])) (fun v H2 => ∃ it t zs, v = .ref it ∧ H2 it = some (ItT t it) ∧ n ≤ it ∧ Ins H2 x C ∧ H2 q = some (.lst []) ∧
  spN [x] (dropH H2 it) (fun v H3 => ∃ k : Nat, v = .int k ∧ k < 1000000 ∧ H3 q = some (.lst []) ∧ t ≠ q ∧ SqT K H3 t zs ∧ zs.length ≤ 1000 ∧ Q (.ref q) (upd H3 q (.lst zs))) E0) E0
theorem call_listIt (itA : PySem.W.findIn X.K (.ref C) "__iter__" = some (some (.ref fI))) (itN : PySem.W.isFn X.K (.ref fI) = true) (FI : FnZ X.prog X.w X.K X.mg X.base kI fI ["self"] fdI spI) (bI : Binds X.K fdI ["self"] [])
    (M : Mt X.prog X.w X.K X.mg X.base C "__len__" kL ["self"] spN fL fdL) (hrI : Room (kI + 3) X.A) (hrL : Room (kL + 3) X.A) (hcalm : X.calm = true) : CallR X (.type "list") (rListIt X.K C spI spN) := by
  intro pins s σ H xs us Q I rv h
  obtain ⟨_, rfl, ⟨a, dx, fs, rfl, ha⟩, hq⟩ := h
  obtain ⟨u, rfl, ru⟩ := rv.one
  cases ru
  refine callType_codes (Q₁ := fun obj s₁ => obj = .ref s.heap.objs.size ∧ s₁ = { s with heap := s.heap.push { cls := .type "list", data := .seq #[] } }) PySem.F.called_list (PySem.F.typeCall_list_1 _) PySem.F.entry_list_init
    (code_list_new _ ⟨rfl, rfl⟩) fun obj s₁ h₁ => ?_
  obtain ⟨rfl, rfl⟩ := h₁
  have hS : (s.heap.push { cls := .type "list", data := .seq #[] }).get? s.heap.objs.size = some { cls := .type "list", data := .seq #[] } := Heap.get?_push_size _ rfl
  refine ⟨⟨_, hS, rfl⟩, PySem.F.args_list_init_2 _ _, ?_⟩
  have fr : H s.heap.objs.size = none := I.hok.fresh (Nat.le_refl _)
  have I1 : Inv X pins σ (upd H s.heap.objs.size (.lst [])) { s with heap := s.heap.push { cls := .type "list", data := .seq #[] } } := I.lnew (its := []) (t' := s.toks) .nil (Nat.zero_le _)
  show wpAny _ _ (do let old ← Builtin.List.listItems (.ref s.heap.objs.size); Builtin.List.listUpdate (.ref s.heap.objs.size) (fun _ => #[]); letGo old.toList.reverse; Builtin.List.listExtendWith (.ref s.heap.objs.size) (.ref a) .none) _ _ _
  refine wpAny_bind ?_
  unfold Builtin.List.listItems
  refine wpAny_bind (wpAny_seqItems hS rfl (wpAny_pure ?_))
  show wpAny _ _ (updateSeq s.heap.objs.size (fun _ => #[]) >>= fun _ => letGo (#[] : Array Value).toList.reverse >>= fun _ => Builtin.List.listExtendWith (.ref s.heap.objs.size) (.ref a) .none) _ _ _
  refine wpAny_bind (wpAny_updateSeq hS rfl ?_)
  have I2 := I1.lset (f := fun _ => #[]) (its := []) (its' := []) (ys := []) (t' := s.toks) upd_same hS rfl .nil (Nat.zero_le _)
  rw [upd_upd] at I2
  refine wpAny_bind (wpAny_letGo ?_)
  have ha2 : upd H s.heap.objs.size (.lst []) a = some (.ins C dx fs) := by rw [upd_ne (ne_of_none ha fr)]; exact ha
  have hne : s.heap.objs.size ≠ a := (ne_of_none ha fr).symm
  have hq2 : upd H s.heap.objs.size (.lst []) s.heap.objs.size = some (.lst []) := upd_same
  have hspI := hq s.heap.objs.size fr
  generalize upd H s.heap.objs.size (.lst []) = G at I2 ha2 hq2 hspI
  generalize s.heap.objs.size = q at I2 ha2 hq2 hspI hne
  generalize { s with heap := _, toks := s.toks } = s2 at I2
  obtain ⟨ox, od, J⟩ := ins_at I2 ha2
  obtain ⟨m0, hF⟩ := I2.fr
  unfold Builtin.List.listExtendWith
  refine wpAny_bind (J.type.here ?_)
  have h1 : Builtin.List.listSameRef (.ref q) (.ref a) = false := by simp [Builtin.List.listSameRef, hne]
  have h2 : (Value.ref C == Value.type "list") = false := rfl
  have h3 : (Value.ref C == Value.type "tuple") = false := rfl
  simp only [h1, h2, h3, Bool.or_false, Bool.false_eq_true, if_false]
  have e0 := I2.env0
  refine wpAny_bind (PySem.W.owit_iter hF I2.ok.mod.kin J itA itN (wpAny_call (codeAny_mono (FI.run X.A.in1.in1 X.stack s2 G ⟨[.ref a], []⟩ [.ref a] [.ref a] _ (hrI.mono (by omega)).in1.in1 ⟨e0.frames, e0.mod, e0.bs, e0.bsz, e0.funs, e0.frf, e0.hok, e0.bare⟩ (bI s2 [.ref a] I2.kIn rfl) (.cons rfl .nil) rfl (hspI s2.heap.objs.size)) fun r s' z => ?_)))
  cases r with
  | error e => exact (show False from z).elim
  | ok fl =>
    cases fl with
    | next => exact (show False from z).elim
    | brk => exact (show False from z).elim
    | cont => exact (show False from z).elim
    | ret u =>
      obtain ⟨v, H2, I3, rv3, it, t, zs, rfl, hit, hn, ⟨b, dx3, fs3, eb, hb⟩, hq3, hspN⟩ := I2.after z
      cases eb
      cases rv3
      have st := itT_get I3 hit
      obtain ⟨o, ho, hc, hd⟩ := id st
      show PySem.W.OwitIt _ _ _ _ _ _
      unfold PySem.W.OwitIt specialOf
      have ty : s'.TypeIs (.ref it) "tuple_iterator" := ⟨o, ho, hc⟩
      refine wpAny_bind (wpAny_typeOf ty ?_)
      rw [PySem.F.slot_tuple_iterator_next.lookup]
      refine wpAny_pure ?_
      have hit' := hit
      unfold ItT at hit'
      have I4 := inv_drop I3 hit'
      have fp4 : FpOk X pins (dropH H2 it) it := inv_fp I3 hit (Nat.le_trans I2.sz hn)
      have T := turn_tuple (P := X.prog) (w := X.w) (K := X.K) (tg := .Name "x" ⟨0, 0, 0, 0⟩) t it
      have I5 := I4.pinned (fp := [it]) (fun b hb => by
        obtain rfl : b = it := by simpa using hb
        exact fp4) (fun b hb => by
        obtain rfl : b = it := by simpa using hb
        exact ⟨o, ho, fun v z => by rw [hd] at z; cases z⟩)
      have ab : a ≠ it := fun z => by
        rw [z, hit'] at hb
        cases hb
      have hb4 : dropH H2 it a = some (.ins C dx3 fs3) := by rw [dropH_ne ab]; exact hb
      obtain ⟨ox5, od5, J5⟩ := ins_at I5 hb4
      obtain ⟨m5, hF5⟩ := I5.fr
      refine wpAny_bind (wpAny_holding ?_)
      unfold Builtin.List.listLengthHint
      refine wpAny_bind (wpAny_bind (J5.type.here ((PySem.W.looks_findIn I5.kIn M.at_).here ?_)))
      refine PySem.W.KFB.if_not rfl ?_
      refine PySem.W.KFB.if_so rfl ?_
      refine wpAny_bind (wpAny_rule ?_)
      refine wpAny_bind (wpAny_attempt ?_)
      have ne' : a ≠ q := hne.symm
      refine PySem.W.len_K hF5 I5.ok.mod.kin J5 M.at_ M.fn (wpAny_mono (run_atE (E := fun _ _ => False) M.ok M.b rfl (hrL.mono (by omega)).in1.in1.in1 I5 (.cons (show RelV (V.ref a) (Value.ref a) from rfl) .nil) hspN) (fun r6 s6 z6 => ?_) fun _ _ z => z.elim)
      obtain ⟨v6, H6, I6, rv6, n6, rfl, h6, hq6, tq, ht6, hz6, q6⟩ := z6
      obtain ⟨t6, rfl⟩ := rv6
      refine ⟨⟨by omega, by omega⟩, ?_⟩
      show wpAny _ _ (asInt? (Value.int (n6 : Int) s6.toks) >>= _) _ _ _
      refine wpAny_bind (wpAny_of_eq (a := some (n6 : Int)) rfl ?_)
      refine PySem.W.KFB.if_not (notLongL (by rw [sizeLine_eq]; simp; omega)) ?_
      refine wpAny_pure ?_
      have I7 := I6.unpinned
      have pin := fun o e => I6.pin (it, o) (List.mem_append_right _ (List.mem_append_right _ (mem_pinsAt (fp := [it]) (h := s'.heap) (by simp) e)))
      have st6 : s6.heap.IsTupleIter it t 0 := st.at fun o e => (pin o e).1
      have fp6 : FpOk X pins H6 it := ⟨(pin o ho).2.1, fp4.2⟩
      have zl : zs.length ≤ sizeLine := by rw [sizeLine_eq]; omega
      have fin : ∀ s8, Inv X pins σ (upd H6 q (.lst zs)) s8 → wants (fun r s₂ => r = .none ∧ EP X pins σ Q (.ref q) s₂) X.xe (.ok (.ret .none)) s8 := fun s8 I8 => ⟨rfl, .ref q, _, I8, rfl, q6⟩
      have eH : upd H6 q (.lst []) = H6 := by
        funext b
        by_cases hb : b = q
        · rw [hb, upd_same, hq6]
        · rw [upd_ne hb]
      have I7' : Inv X pins σ H6 { s6 with toks := s6.toks + 1 } := I7.tok _
      obtain ⟨z3, its3, k3, r3, hl3, e3⟩ := I7'.lstM hq6
      cases r3
      refine wpAny_ite_split (fun _ => ?_) (fun _ => wpAny_pure ⟨plainId_quiet PySem.F.plain_extend_loop _, it_loop (A1 := X.A.in1) (I.ok.hd hcalm) zl zs.length 0 H6 _ (by omega) (by omega) I7' (by rw [List.take_zero]; exact hq6) ht6 tq fp6 st6 fin⟩)
      refine wpAny_bind (wpAny_rule ?_)
      refine wpAny_bind ?_
      show wpAny _ _ (updateSeq q (·.push .none) >>= fun _ => updateSeq q (·.pop)) _ _ _
      refine wpAny_bind (wpAny_updateSeq e3 rfl ?_)
      have I8 := I7'.lset (f := (·.push Value.none)) (its' := [Value.none]) (ys := [.non]) (t' := s6.toks + 1) hq6 e3 (by simp) (.cons rfl .nil) (by rw [List.length_singleton, sizeLine_eq]; decide)
      obtain ⟨z4, its4, k4, r4, hl4, e4⟩ := I8.lstM upd_same
      obtain ⟨u4, rfl, ru4⟩ := r4.one
      refine wpAny_updateSeq e4 rfl ?_ (by show 1 ≤ sizeLine; rw [sizeLine_eq]; decide) (by show 0 ≤ sizeLine + 1; exact Nat.zero_le _)
      have I9 := I8.lset (f := (·.pop)) (its := [u4]) (its' := []) (ys := []) (t' := s6.toks + 1) upd_same e4 (by rfl) .nil (Nat.zero_le _)
      rw [upd_upd, eH] at I9
      have itq : it ≠ q := fun z => by
        have := fp6.1
        rw [z, hq6] at this
        cases this
      exact wpAny_pure ⟨plainId_quiet PySem.F.plain_extend_loop _, it_loop (A1 := X.A.in1) (I.ok.hd hcalm) zl zs.length 0 H6 _ (by omega) (by omega) I9 (by rw [List.take_zero]; exact hq6) ht6 tq fp6 (st6.at fun o e => (Heap.get?_update_other _ _ (Ne.symm itq)).trans ((Heap.get?_update_other _ _ (Ne.symm itq)).trans e)) fin⟩
end
end Own

set_option Elab.async false
set_option linter.all false
set_option maxRecDepth 100000
set_option maxHeartbeats 4000000
/-! Table.__eq__, Table.__iter__. -/
namespace Tb
open PySem PySem.Spec PyProof.Rows L2 EvP Cm Fk DtE KyS XG
abbrev sTEq : Stmt := tmeth 19
abbrev sTIter : Stmt := tmeth 2
theorem scTEq : FnScope ["self", "other"] ["self", "other"] (defScope sTEq) := ⟨rfl, rfl, rfl, by decide +kernel, rfl, by decide +kernel, by decide +kernel⟩
theorem scTIter : FnScope ["self"] ["self"] (defScope sTIter) := ⟨rfl, rfl, rfl, by decide +kernel, rfl, by decide +kernel, by decide +kernel⟩
def strsD (ss : List Str) : PyData := .tuple (ss.map PyData.str)
theorem dp_strs {K : PySem.W.Frag} {H : Hp} : ∀ ss : List Str, DpAll K H (ss.map V.str) (ss.map PyData.str)
  | [] => .nil
  | s :: r => .cons (.str s) (dp_strs r)
theorem eqv_strs : ∀ ss ts : List Str, PyData.eqvAll (ss.map PyData.str) (ts.map PyData.str) = decide (ss = ts)
  | [], [] => rfl
  | [], _ :: _ => rfl
  | _ :: _, [] => rfl
  | s :: ss, t :: ts => by
    show ((s == t) && PyData.eqvAll (ss.map PyData.str) (ts.map PyData.str)) = _
    rw [eqv_strs ss ts]
    by_cases h1 : s = t
    · by_cases h2 : ss = ts
      · simp [h1, h2]
      · simp [h2]
    · simp [h1]
theorem lay_strs : ∀ {ss : List Str}, (∀ s ∈ ss, PyData.strOk s = true) → PyData.canLayAll0 (ss.map PyData.str) = true
  | [], _ => rfl
  | s :: r, h => by
    show (PyData.strOk s && PyData.canLayAll0 (r.map PyData.str)) = true
    rw [h s (.head _), lay_strs fun y hy => h y (.tail _ hy)]
    rfl
theorem depth_strs : ∀ ss : List Str, PyData.depthAll (ss.map PyData.str) = 0
  | [] => rfl
  | s :: r => by
    show max 0 (PyData.depthAll (r.map PyData.str)) = 0
    rw [depth_strs r]
    rfl
theorem shaped_strs {ss : List Str} (h : ∀ s ∈ ss, PyData.strOk s = true) : SeqAt.shaped (strsD ss) = true := by
  show (PyData.canLayAll0 (ss.map PyData.str) && decide (PyData.depthAll (ss.map PyData.str) + 1 ≤ 64)) = true
  rw [lay_strs h, depth_strs]
  rfl
def eqT (ss xs ss' xs' : List Str) (r r' : TRow) : Bool := decide (ss = ss') && (decide (xs = xs') && sameT r r')
def Oks (ss : List Str) : Prop := ∀ s ∈ ss, PyData.strOk s = true
def spTEq (K : PySem.W.Frag) (C : Addr) : Sp := fun vs H Q _ => (∃ (x y : Addr) (ss xs ss' xs' : List Str) (r r' : TRow), vs = [.ref x, .ref y] ∧ TblAt C H x ss xs r ∧ TblAt C H y ss' xs' r' ∧ Oks ss ∧ Oks xs ∧ Oks ss' ∧ Oks xs' ∧ Q (.bl (eqT ss xs ss' xs' r r')) H) ∨
  ∃ x y t, vs = [x, y] ∧ TyX K H y t ∧ PySem.W.kitOne K t (.ref C) = some false ∧ Q (.bl false) H
def spTIter (C : Addr) (n : Nat) : Sp := fun vs H Q _ => ∃ x ss xs r, vs = [.ref x] ∧ TblAt C H x ss xs r ∧ ∀ p prs it, H p = some (.tup prs) → All2 H ((sortK (r.map (·.1))).map fun k => tupV (k.map kV)) prs → H it = none → n ≤ it → Q (.ref it) (upd H it (Own.ItT p it))
section
variable {P : Program} {w : World} {K : PySem.W.Frag} {mg : Str → Option Value} {base : Heap} {C f : Addr} {fd : FuncData}
theorem ok_teq (F : Fun K "__eq__" "Table.__eq__" sTEq f fd) (S : TblC K C) (SI : TblI K C) (T : Blt mg) (gS : mg "Table" = some (.ref C)) : FnOk P w K mg base CX0 1 f fd ["self", "other"] (spTEq K C) := by
  refine F.ok scTEq (fun vs H Q E h => ?_) (fun cdv A outer s H vs Q E hr h => ?_)
  · rcases h with ⟨x, y, ss, xs, ss', xs', r, r', rfl, _⟩ | ⟨x, y, t, rfl, _⟩ <;> rfl
  · refine ⟨_, pss_one (ps_ret (pe_and (pe_callB call_isi (by rfl) T.isi (by decide +kernel) (pa_cons (pv 1) (pa_cons (pe_glob (v := .ref C) (by rfl) gS rfl) pa_nil)))
      (pe_and (pe_cmpR (op_eqD hr.units) (pe_fld (pv 0) rfl) (pe_fld (pv 1) rfl) (nomark _))
      (pe_and (pe_cmpR (op_eqD hr.units) (pe_fld (pv 0) rfl) (pe_fld (pv 1) rfl) (nomark _))
      (pe_one (pe_cmpR (op_eqT (hu_of hr)) (pe_fld (pv 0) rfl) (pe_fld (pv 1) rfl) (nomark _))))))), ?_⟩
    rcases h with ⟨x, y, ss, xs, ss', xs', r, r', rfl, ⟨dx, n1, n2, dw, pp, prs, h1, h2, h3, h4, h5, h6⟩, ⟨dx', n1', n2', dw', pp', prs', k1, k2, k3, k4, k5, k6⟩, o1, o2, o3, o4, q⟩ | ⟨x, y, t, rfl, ty, kt, q⟩
    · refine ⟨_, rfl, _, _, _, _, true, rfl, .own C, .base (.ins k1 S.cl SI.ha SI.hn SI.htk SI.hm), ?_, _, rfl, ?_⟩
      · unfold PySem.W.kitOne
        rw [if_pos (by simp)]
      unfold eqT at q
      refine ⟨_, rfl, x, C, dx, _, _, rfl, h1, S.cl, S.nS, rfl, _, rfl, y, C, dx', _, _, rfl, k1, S.cl, S.nS, rfl, strsD ss, strsD ss', .tup (SqT.of h2) (dp_strs ss), .tup (SqT.of k2) (dp_strs ss'), shaped_strs o1, shaped_strs o3, ?_⟩
      rw [show PyData.eqv (strsD ss) (strsD ss') = decide (ss = ss') from eqv_strs ss ss']
      refine ⟨_, rfl, ?_⟩
      cases c1 : decide (ss = ss') with
      | false =>
        rw [c1] at q
        exact q
      | true =>
        rw [c1, Bool.true_and] at q
        refine ⟨_, rfl, x, C, dx, _, _, rfl, h1, S.cl, S.nU, rfl, _, rfl, y, C, dx', _, _, rfl, k1, S.cl, S.nU, rfl, strsD xs, strsD xs', .tup (SqT.of h3) (dp_strs xs), .tup (SqT.of k3) (dp_strs xs'), shaped_strs o2, shaped_strs o4, ?_⟩
        rw [show PyData.eqv (strsD xs) (strsD xs') = decide (xs = xs') from eqv_strs xs xs']
        refine ⟨_, rfl, ?_⟩
        cases c2 : decide (xs = xs') with
        | false =>
          rw [c2] at q
          exact q
        | true =>
          rw [c2, Bool.true_and] at q
          exact ⟨_, rfl, x, C, dx, _, _, rfl, h1, S.cl, S.nW, rfl, _, rfl, y, C, dx', _, _, rfl, k1, S.cl, S.nW, rfl, dw, dw', r, r', rfl, rfl, h4, k4, q⟩
    · exact ⟨_, rfl, _, _, _, _, false, rfl, .own C, ty, kt, _, rfl, q⟩
theorem ok_titer (F : Fun K "__iter__" "Table.__iter__" sTIter f fd) (S : TblC K C) (hI : mg "iter" = none) : Own.FnZ P w K mg base 1 f ["self"] fd (spTIter C) := by
  refine Own.Fun.okZ F scTIter fun cdv A outer s H vs Q hr h => ?_
  obtain ⟨x, ss, xs, r, rfl, ⟨dx, n1, n2, dw, pp, prs, h1, h2, h3, h4, h5, h6⟩, q⟩ := h
  refine ⟨_, pss_one (ps_ret (pe_callB Own.call_iterT (by rfl) hI (by decide +kernel) (pa_cons (pe_fld (pv 0) rfl) pa_nil))), ?_⟩
  exact ⟨_, rfl, x, C, dx, _, _, rfl, h1, S.cl, S.nP, rfl, pp, prs, rfl, SqT.of h5, fun it hit hn => q pp prs it h5 h6 hit hn⟩
end
end Tb

set_option Elab.async false
set_option linter.all false
set_option maxRecDepth 100000
set_option maxHeartbeats 4000000
/-! row_text, Table.__str__. -/
namespace Tb
open PySem PySem.Spec PyProof.Rows L2 EvP Cm Fk DtE KyS XG
abbrev sRowT : Stmt := top 34
abbrev NR : List Str := ["table", "source", "words", "use"]
theorem scRowT : FnScope NR ["table", "source"] (defScope sRowT) := ⟨rfl, rfl, rfl, by decide +kernel, rfl, by decide +kernel, by decide +kernel⟩
/-- the words of a row -/
def rowW (s : Str) (xs : List Str) (r : TRow) : List Str := s :: xs.map fun u => numT (wk r (key2 s u))
def rowT (s0 s : Str) (xs : List Str) (r : TRow) : Str := Txt.join " " (if s = s0 then rowW s xs r else ";" :: rowW s xs r)
/-- worths that are written -/
def Wks (r : TRow) : Prop := ∀ k, 0 ≤ wk r k ∧ wk r k < 10 ^ 64
def spRowT (C : Addr) : Sp := fun vs H Q _ => ∃ (x : Addr) (s s0 : Str) (ss xs : List Str) (r : TRow), vs = [.ref x, .str s] ∧ TblAt C H x (s0 :: ss) xs r ∧ NameV (.str s) ∧ (∀ u ∈ xs, NameV (.str u)) ∧ xs.length ≤ 6 ∧ Wks r ∧ ∀ H', Ex H H' → Q (.str (rowT s0 s xs r)) H'
theorem sum_le {α : Type} (f : α → Nat) {n : Nat} : ∀ {l : List α}, (∀ x ∈ l, f x ≤ n) → (l.map f).sum ≤ n * l.length
  | [], _ => by simp
  | x :: l, h => by
    have ih := sum_le f fun y hy => h y (.tail _ hy)
    have h0 := h x (.head _)
    rw [List.map_cons, List.sum_cons, List.length_cons, Nat.mul_add]
    omega
theorem numT_len {n : Int} (h0 : 0 ≤ n) (h1 : n < 10 ^ 64) : (numT n).length ≤ 64 := toString_length_le h0 (k := 64) (by decide) h1
theorem name_le {x : Str} (h : NameV (.str x)) : x.length ≤ 8 := by
  obtain ⟨y, ey, _, hb⟩ := h
  cases ey
  exact (name_small hb).1
theorem rowW_sum {s : Str} {xs : List Str} {r : TRow} (hs : NameV (.str s)) (l : xs.length ≤ 6) (w : Wks r) : ((rowW s xs r).map (·.length)).sum ≤ 400 ∧ (rowW s xs r).length ≤ 7 := by
  have a := name_le hs
  have b := sum_le (fun u : Str => (numT (wk r (key2 s u))).length) (n := 64) (l := xs) fun u _ => numT_len (w _).1 (w _).2
  unfold rowW
  rw [List.map_cons, List.sum_cons, List.map_map, List.length_cons, List.length_map]
  refine ⟨?_, by omega⟩
  have e : (xs.map ((fun x : Str => x.length) ∘ fun u => numT (wk r (key2 s u)))).sum = (xs.map fun u => (numT (wk r (key2 s u))).length).sum := rfl
  rw [e]
  have : 64 * xs.length ≤ 64 * 6 := Nat.mul_le_mul_left _ l
  omega
section
variable {P : Program} {w : World} {K : PySem.W.Frag} {mg : Str → Option Value} {base : Heap} {C f fN fI fR : Addr} {fd fdN fdI fdR : FuncData}
theorem ok_rowT (F : Fun K "row_text" "row_text" sRowT f fd) (S : TblC K C) (M : Own.Mt P w K mg base C "__getitem__" 3 ["self", "at"] (spTItem C) fI fdI) (MF : PySem.W.fnIn K fI = true)
    (G : FnOk P w K mg base CX0 1 fN fdN ["number"] spNum) (b : Binds K fdN ["number"] []) (gN : mg "number_text" = some (.ref fN)) (kN : PySem.W.keepIn K (.ref fN) = true) : FnOk P w K mg base CX0 5 f fd ["table", "source"] (spRowT C) := by
  have nd := scRowT.nd
  refine F.ok scRowT (fun vs H Q E h => ?_) (fun cdv A outer s H vs Q E hr h => ?_)
  · obtain ⟨x, s, s0, ss, xs, r, rfl, _⟩ := h
    rfl
  · obtain ⟨x, sc, s0, ss, xs, r, rfl, sa, hs, hx, l6, wr, q⟩ := h
    refine ⟨_, pss_cons (ps_set (i := 2) nd rfl (Or.inl rfl) (pe_lst (pa_cons (pv 1) (StX.pa_star (pe_lc (own := [("use", 3)]) (g := gName 3) (tt := tYes) (te := tCall spNum [] E0 (tCons (tOp (Own.rIxOwn C (spTItem C)) (tVar 0) (tTup (tCons (tVar 1) (tCons (tVar 3) tNil)))) tNil)) rfl nd (pi_tup (pe_fld (pv 0) rfl)) (blkOk_by (N := NR) (sc := defScope sRowT) (by decide +kernel))
        (fun _ _ _ _ _ => pg_name (i := 3) nd rfl (Or.inl rfl)) (fun _ _ _ _ _ => pts_nil) (fun _ _ _ _ _ => pe_call G (hr.mono (by decide)) (by rfl) gN kN b .nil pass0 (pa_cons (Own.pe_ixOwn M MF hr (pv 0) (pe_tup (pa_cons (pv 1) (pa_cons (pv 3) pa_nil)))) pa_nil))) pa_nil))))
      (pss_cons (ps_if (pt_cmpR op_ne (pv 1) (pe_ix ix_tup (pe_fld (pv 0) rfl) pe_int (fun _ _ => rfl)) (nomark _)) (pss_one (ps_set (i := 2) nd rfl (Or.inl rfl) (pe_lst (pa_cons pe_str (StX.pa_star (pv 2) pa_nil))))) pss_nil)
      (pss_one (ps_ret (pe_join pe_str (pv 2))))), ?_⟩
    have sa' := sa
    obtain ⟨dx, n1, n2, dw, pp, prs, h1, h2, h3, h4, h5, h6⟩ := sa'
    have w0 : Walks (iTup K (tFld K (tVar 0) "uses")) [some (.ref x), some (.str sc), none, none] H (xs.map V.str) := walks_tup (g_fld rfl h1 S.cl S.nU rfl (⟨n2, rfl, h3⟩ : (tupV (xs.map V.str)).R (.ref n2) H))
    have z := comp_is (te := tCall spNum [] E0 (tCons (tOp (Own.rIxOwn C (spTItem C)) (tVar 0) (tTup (tCons (tVar 1) (tCons (tVar 3) tNil)))) tNil)) (tt := tYes) (i := 3) (vs := [3]) (fun _ => true) (fun v => match v with
      | .str u => V.str (numT (wk r (key2 sc u)))
      | _ => .non) w0 (by rw [List.length_map]; omega) (fun _ => rfl) (fun _ _ H2 _ Q h => h) (fun v hv _ => by
        obtain ⟨u, hu, rfl⟩ := List.mem_map.mp hv
        intro H1 e1 Q1 q1
        refine ⟨_, rfl, _, rfl, _, rfl, by show 2 ≤ sizeLine; decide, fun p hp => ?_⟩
        have e2 := Ex.new (o := .tup [.str sc, .str u]) hp
        exact ⟨tbl_ins (sa.mono (e1.trans e2)), x, p, s0 :: ss, xs, r, key2 sc u, rfl, sa.mono (e1.trans e2), upd_same, ⟨sc, u, rfl, hs, hx u hu⟩, _, rfl, (wr _).1, (wr _).2, fun H' e' => q1 _ H' (e2.trans e') rfl⟩)
    rw [List.filter_eq_self.mpr (fun _ _ => rfl), List.map_map] at z
    have ez : (xs.map ((fun v : V => match v with
      | .str u => V.str (numT (wk r (key2 sc u)))
      | _ => .non) ∘ V.str)) = (xs.map fun u => numT (wk r (key2 sc u))).map V.str := by
      rw [List.map_map]
      rfl
    rw [ez] at z
    obtain ⟨sm, sl⟩ := rowW_sum (r := r) hs l6 wr
    refine ⟨_, rfl, z H (Ex.refl H) _ fun v H1 e1 ⟨l, ev, hl⟩ => ⟨l, _, ev, .inr (SqL.of hl), ?_, fun p hp => ?_⟩⟩
    · rw [sizeLine_eq]
      simp only [List.length_append, List.length_cons, List.length_map, List.length_nil]
      omega
    have e2 := Ex.new (o := .lst (.str sc :: ((xs.map fun u => numT (wk r (key2 sc u))).map V.str ++ []))) hp
    have hp1 : upd H1 p (.lst (.str sc :: ((xs.map fun u => numT (wk r (key2 sc u))).map V.str ++ []))) p = some (.lst ((rowW sc xs r).map V.str)) := by
      rw [upd_same, List.append_nil]
      rfl
    generalize upd H1 p (.lst (.str sc :: ((xs.map fun u => numT (wk r (key2 sc u))).map V.str ++ []))) = H2 at e2 hp1 ⊢
    have e12 := e1.trans e2
    refine ⟨_, rfl, _, rfl, ?_⟩
    refine ⟨x, C, dx, _, _, rfl, e12 _ _ h1, S.cl, S.nS, rfl, n1, (s0 :: ss).map V.str, 0, .str s0, rfl, rfl, SqT.of (e12 _ _ h2), atI_nat (xs := (s0 :: ss).map V.str) (j := 0) rfl, rfl, _, rfl, ?_⟩
    have eqd : decide (V.str sc = V.str s0) = decide (sc = s0) := by
      by_cases c : sc = s0
      · rw [c]
        simp
      · have : ¬ V.str sc = V.str s0 := fun z => c (V.str.inj z)
        rw [decide_eq_false c, decide_eq_false this]
    rw [eqd]
    by_cases c : sc = s0
    · rw [decide_eq_true c]
      dsimp only [Bool.not_true, tNext]
      rw [if_neg (show ¬ (!true) = true by decide)]
      refine ⟨⟨_, rfl⟩, _, rfl, " ", p, rowW sc xs r, rfl, rfl, .inl (SqL.of hp1), ?_, ?_⟩
      · show _ + _ * 1 ≤ 16777216
        omega
      · have := q H2 e12
        unfold rowT at this
        rw [if_pos c] at this
        exact this
    · rw [decide_eq_false c]
      dsimp only [Bool.not_false]
      rw [if_pos (show (!false) = true by decide)]
      refine ⟨_, rfl, p, _, rfl, .inr (SqL.of hp1), ?_, fun p2 hp2 => ?_⟩
      · rw [sizeLine_eq]
        simp only [List.length_cons, List.length_append, List.length_map, List.length_nil]
        omega
      refine ⟨⟨_, rfl⟩, _, rfl, " ", p2, (";" : Str) :: rowW sc xs r, rfl, rfl, .inl (SqL.of (by rw [upd_same, List.append_nil]; rfl)), ?_, ?_⟩
      · rw [List.map_cons, List.sum_cons, List.length_cons]
        show 1 + _ + (_ + 1) * 1 ≤ 16777216
        omega
      · have := q _ (e12.trans (Ex.new (o := .lst (V.str ";" :: ((rowW sc xs r).map V.str ++ []))) hp2))
        unfold rowT at this
        rw [if_neg c] at this
        exact this
end
end Tb
namespace Tb
open PySem PySem.Spec PyProof.Rows L2 EvP Cm Fk DtE KyS XG
abbrev sTStr : Stmt := (match top 35 with
  | .ClassDef _ _ _ body _ _ _ _ _ _ _ => body.getD 24 (.Pass ⟨0, 0, 0, 0⟩)
  | _ => .Pass ⟨0, 0, 0, 0⟩)
theorem scTStr : FnScope ["self", "source"] ["self"] (defScope sTStr) := ⟨rfl, rfl, rfl, by decide +kernel, rfl, by decide +kernel, by decide +kernel⟩
def rowsT (ss xs : List Str) (r : TRow) : List Str := ss.map fun s => rowT (ss.headD s) s xs r
def tblT (ss xs : List Str) (r : TRow) : Str := Txt.join " " (xs ++ (":" : Str) :: rowsT ss xs r)
theorem rowT_len {s0 s : Str} {xs : List Str} {r : TRow} (hs : NameV (.str s)) (l : xs.length ≤ 6) (w : Wks r) : (rowT s0 s xs r).length ≤ 420 := by
  obtain ⟨a, b⟩ := rowW_sum (r := r) hs l w
  unfold rowT
  show (Builtin.Str.glued _ _).length ≤ 420
  rw [PySem.size_glued]
  have one : ((" " : String) : Str).length = 1 := rfl
  rw [one]
  split
  · omega
  · rw [List.map_cons, List.sum_cons, List.length_cons]
    have : ((";" : String) : Str).length = 1 := rfl
    rw [this]
    omega
def spTStr (C : Addr) : Sp := fun vs H Q _ => ∃ (x : Addr) (ss xs : List Str) (r : TRow), vs = [.ref x] ∧ TblAt C H x ss xs r ∧ (∀ u ∈ ss, NameV (.str u)) ∧ (∀ u ∈ xs, NameV (.str u)) ∧ ss.length ≤ 6 ∧ xs.length ≤ 6 ∧ Wks r ∧ ∀ H', Ex H H' → Q (.str (tblT ss xs r)) H'
section
variable {P : Program} {w : World} {K : PySem.W.Frag} {mg : Str → Option Value} {base : Heap} {C f fR : Addr} {fd fdR : FuncData}
theorem ok_tstr (F : Fun K "__str__" "Table.__str__" sTStr f fd) (S : TblC K C) (G : FnOk P w K mg base CX0 5 fR fdR ["table", "source"] (spRowT C)) (b : Binds K fdR ["table", "source"] []) (gR : mg "row_text" = some (.ref fR)) (kR : PySem.W.keepIn K (.ref fR) = true) : FnOk P w K mg base CX0 6 f fd ["self"] (spTStr C) := by
  have nd := scTStr.nd
  refine F.ok scTStr (fun vs H Q E h => ?_) (fun cdv A outer s H vs Q E hr h => ?_)
  · obtain ⟨x, ss, xs, r, rfl, _⟩ := h
    rfl
  · obtain ⟨x, ss, xs, r, rfl, sa, hs, hx, l5, l6, wr, q⟩ := h
    refine ⟨_, pss_one (ps_ret (pe_join pe_str (pe_lst (StX.pa_star (pe_fld (pv 0) rfl) (pa_cons pe_str (StX.pa_star (pe_lc (own := [("source", 1)]) (g := gName 1) (tt := tYes) (te := tCall (spRowT C) [] E0 (tCons (tVar 0) (tCons (tVar 1) tNil))) rfl nd (pi_tup (pe_fld (pv 0) rfl)) (blkOk_by (N := ["self", "source"]) (sc := defScope sTStr) (by decide +kernel))
        (fun _ _ _ _ _ => pg_name (i := 1) nd rfl (Or.inl rfl)) (fun _ _ _ _ _ => pts_nil) (fun _ _ _ _ _ => pe_call G hr (by rfl) gR kR b .nil pass0 (pa_cons (pv 0) (pa_cons (pv 1) pa_nil)))) pa_nil)))))), ?_⟩
    have sa' := sa
    obtain ⟨dx, n1, n2, dw, pp, prs, h1, h2, h3, h4, h5, h6⟩ := sa'
    have w0 : Walks (iTup K (tFld K (tVar 0) "sources")) [some (.ref x), none] H (ss.map V.str) := walks_tup (g_fld rfl h1 S.cl S.nS rfl (⟨n1, rfl, h2⟩ : (tupV (ss.map V.str)).R (.ref n1) H))
    have z := comp_is (te := tCall (spRowT C) [] E0 (tCons (tVar 0) (tCons (tVar 1) tNil))) (tt := tYes) (i := 1) (vs := [1]) (fun _ => true) (fun v => match v with
      | .str u => V.str (rowT (ss.headD u) u xs r)
      | _ => .non) w0 (by rw [List.length_map]; omega) (fun _ => rfl) (fun _ _ H2 _ Q h => h) (fun v hv _ => by
        obtain ⟨u, hu, rfl⟩ := List.mem_map.mp hv
        intro H1 e1 Q1 q1
        cases ss with
        | nil => cases hu
        | cons s0 st => exact ⟨_, rfl, _, rfl, x, u, s0, st, xs, r, rfl, sa.mono e1, hs u hu, hx, l6, wr, fun H' e' => q1 _ H' e' rfl⟩)
    rw [List.filter_eq_self.mpr (fun _ _ => rfl), List.map_map] at z
    have ez : (ss.map ((fun v : V => match v with
      | .str u => V.str (rowT (ss.headD u) u xs r)
      | _ => .non) ∘ V.str)) = (rowsT ss xs r).map V.str := by
      unfold rowsT
      rw [List.map_map]
      rfl
    rw [ez] at z
    have sum1 := sum_le (fun s : Str => (rowT (ss.headD s) s xs r).length) (n := 420) (l := ss) fun s hh => rowT_len (hs s hh) l6 wr
    have sum2 := sum_le (fun s : Str => s.length) (n := 8) (l := xs) fun s hh => name_le (hx s hh)
    have m1 : 420 * ss.length ≤ 420 * 6 := Nat.mul_le_mul_left _ l5
    have m2 : 8 * xs.length ≤ 8 * 6 := Nat.mul_le_mul_left _ l6
    have lr : (rowsT ss xs r).length = ss.length := List.length_map _
    refine ⟨⟨_, rfl⟩, _, rfl, x, C, dx, _, _, rfl, h1, S.cl, S.nU, rfl, n2, xs.map V.str, rfl, .inl (SqT.of h3), ?_⟩
    unfold tCons tC StX.tStar
    dsimp only
    refine z H (Ex.refl H) _ fun v H1 e1 ⟨l, ev, hl⟩ => ⟨l, (rowsT ss xs r).map V.str, ev, .inr (SqL.of hl), ?_, fun p hp => ?_⟩
    · rw [sizeLine_eq]
      simp only [List.length_append, List.length_cons, List.length_map, List.length_nil, lr]
      omega
    · refine ⟨" ", p, xs ++ (":" : Str) :: rowsT ss xs r, rfl, rfl, .inl (SqL.of (by rw [upd_same, List.map_append, List.append_nil]; rfl)), ?_, q _ (e1.trans (Ex.new hp))⟩
      rw [List.map_append, List.sum_append, List.map_cons, List.sum_cons, List.length_append, List.length_cons, lr]
      have e3 : ((rowsT ss xs r).map (·.length)).sum = (ss.map fun s => (rowT (ss.headD s) s xs r).length).sum := by
        unfold rowsT
        rw [List.map_map]
        rfl
      rw [e3]
      have c1 : ((":" : String) : Str).length = 1 := rfl
      have c2 : ((" " : String) : Str).length = 1 := rfl
      rw [c1, c2]
      have e4 : (xs.map (·.length)).sum = (xs.map fun s : Str => s.length).sum := rfl
      omega
end
end Tb

set_option Elab.async false
set_option linter.all false
set_option maxRecDepth 100000
set_option maxHeartbeats 4000000
/-! _law_plain: drawn names, drawn worths. -/
namespace K06
open PySem PySem.Spec PyProof.Rows L2
open DtE (TRow tents lookT valV_tents)
open Tb (key2 PairK Oks)
open Fk (NameV nameB)
open EvP (Ex)
abbrev sPlain : Stmt := top 42
abbrev NP : List Str := ["pen", "most", "pool", "sources_so", "uses_so", "found", "source", "use", "worth_so"]
theorem scPlain : FnScope NP ["pen", "most"] (defScope sPlain) := ⟨rfl, rfl, rfl, by decide +kernel, rfl, by decide +kernel, by decide +kernel⟩
def poolA : List Str := ["a", "b", "c", "d", "e", "f"]
def poolB : List Str := ["x", "b", "zzzzzzzz", "ab", "y", "a"]
def poolC : List Str := ["x", "y", "z", "u", "v", "w"]
def poolD : List Str := ["z", "y", "x", "a", "zzzzzzzz", "c"]
/-- names that a table takes -/
structure NamesOk (ss : List Str) : Prop where
  nod : ss.Nodup
  nm : ∀ n ∈ ss, NameV (.str n)
  few : ss.length ≤ 6
theorem namesOk_of {ss : List Str} (h : (decide ss.Nodup && ss.all nameB && decide (ss.length ≤ 6)) = true) : NamesOk ss := by
  simp only [Bool.and_eq_true, decide_eq_true_eq, List.all_eq_true] at h
  refine ⟨h.1.1, fun n hn => ⟨n, rfl, ?_, h.1.2 n hn⟩, h.2⟩
  have := (Tb.name_small (h.1.2 n hn)).1
  rw [sizeLine_eq]
  omega
/-- worths of pairs of these names -/
structure WorthsOk (ss xs : List Str) (r : TRow) : Prop where
  nod : (r.map (·.1)).Nodup
  key : ∀ t ∈ r, ∃ a ∈ ss, ∃ x ∈ xs, t.1 = key2 a x
  pos : ∀ t ∈ r, 0 < t.2 ∧ t.2 < 10 ^ 30
structure PlainAt (H : Hp) (v : V) (ss xs : List Str) (r : TRow) : Prop where
  ex : ∃ t a b d, v = .ref t ∧ H t = some (.tup [.ref a, .ref b, .ref d]) ∧ H a = some (.lst (ss.map V.str)) ∧ H b = some (.lst (xs.map V.str)) ∧ H d = some (.dT (tents r))
structure PlainOk (ss xs : List Str) (r : TRow) : Prop where
  s : NamesOk ss
  u : NamesOk xs
  w : WorthsOk ss xs r
def spPlain : Sp := fun vs H Q _ => ∃ (p q : Addr) (ns : List Int) (s g m : Int), vs = [.ref p, .int m] ∧ Pen H p q ns s g ∧ ns.length ≤ 63 ∧ 0 ≤ s ∧ s < 99000 ∧ 0 < m ∧ m ≤ 10 ^ 30 ∧
  ∀ (v : V) (ss xs : List Str) (r : TRow) (s' g' : Int) (H' : Hp), PlainOk ss xs r → PlainAt H' v ss xs r → s ≤ s' → s' ≤ s + 200 → Pen H' p q ns s' g' → But p H H' → Q v H'
theorem cut_str {l : List Str} (h : l.length = 6) (k : Int) (hk : k = 0 ∨ k = 1 ∨ k = 2 ∨ k = 3 ∨ k = 6) : cutV (l.map V.str) none (some k) = (l.take k.toNat).map V.str := by
  match l, h with
  | [a, b, c, d, e, f], _ => rcases hk with rfl | rfl | rfl | rfl | rfl <;> rfl
theorem pools_ok (k : Int) (hk : k = 0 ∨ k = 1 ∨ k = 2 ∨ k = 3 ∨ k = 6) : NamesOk (poolA.take k.toNat) ∧ NamesOk (poolB.take k.toNat) ∧ NamesOk (poolC.take k.toNat) ∧ NamesOk (poolD.take k.toNat) := by
  rcases hk with rfl | rfl | rfl | rfl | rfl <;> exact ⟨namesOk_of (by decide +kernel), namesOk_of (by decide +kernel), namesOk_of (by decide +kernel), namesOk_of (by decide +kernel)⟩
/-- some pairs are told, those of the sources before the i-th, and of it with the uses before the j-th -/
structure Mid (ss xs : List Str) (i j : Nat) (r : TRow) : Prop where
  nod : (r.map (·.1)).Nodup
  key : ∀ t ∈ r, ∃ a x, t.1 = key2 a x ∧ ((a ∈ ss.take i ∧ x ∈ xs) ∨ (ss[i]? = some a ∧ x ∈ xs.take j))
  pos : ∀ t ∈ r, 0 < t.2 ∧ t.2 < 10 ^ 30
theorem nodup_le {α : Type} [DecidableEq α] : ∀ {l m : List α}, l.Nodup → (∀ x ∈ l, x ∈ m) → l.length ≤ m.length
  | [], _, _, _ => Nat.zero_le _
  | x :: l, m, n, h => by
    rw [List.nodup_cons] at n
    have hx : x ∈ m := h x (.head _)
    have e := List.length_erase_of_mem hx
    have p : 0 < m.length := List.length_pos_of_mem hx
    have ih := nodup_le (m := m.erase x) n.2 fun y hy => (List.mem_erase_of_ne fun z => n.1 (by rw [← z]; exact hy)).mpr (h y (.tail _ hy))
    rw [List.length_cons]
    omega
theorem Mid.len {ss xs : List Str} {i j : Nat} {r : TRow} (m : Mid ss xs i j r) (hs : NamesOk ss) (hx : NamesOk xs) : r.length ≤ 1000 := by
  have sub : ∀ k ∈ r.map (·.1), k ∈ ss.flatMap fun a => xs.map fun x => key2 a x := fun k hk => by
    obtain ⟨t, ht, rfl⟩ := List.mem_map.mp hk
    obtain ⟨a, x, e, h⟩ := m.key t ht
    rw [e]
    rcases h with ⟨h1, h2⟩ | ⟨h1, h2⟩
    · exact List.mem_flatMap.mpr ⟨a, List.mem_of_mem_take h1, List.mem_map.mpr ⟨x, h2, rfl⟩⟩
    · exact List.mem_flatMap.mpr ⟨a, List.mem_of_getElem? h1, List.mem_map.mpr ⟨x, List.mem_of_mem_take h2, rfl⟩⟩
  have l1 : (r.map (·.1)).length ≤ (ss.flatMap fun a => xs.map fun x => key2 a x).length := by
    exact nodup_le m.nod sub
  rw [List.length_map, List.length_flatMap] at l1
  have l2 := Tb.sum_le (fun a : Str => (xs.map fun x => key2 a x).length) (n := 6) (l := ss) fun a _ => by rw [List.length_map]; exact hx.few
  have : 6 * ss.length ≤ 6 * 6 := Nat.mul_le_mul_left _ hs.few
  omega
theorem Mid.step_i {ss xs : List Str} {i : Nat} {r : TRow} {a : Str} (h : ss[i]? = some a) (m : Mid ss xs i xs.length r) : Mid ss xs (i + 1) 0 r := ⟨m.nod, fun t ht => by
  obtain ⟨b, x, e, h2⟩ := m.key t ht
  refine ⟨b, x, e, .inl ?_⟩
  rw [List.take_add_one, h]
  rcases h2 with ⟨h2, h3⟩ | ⟨h2, h3⟩
  · exact ⟨List.mem_append_left _ h2, h3⟩
  · rw [h] at h2
    rw [List.take_length] at h3
    exact ⟨List.mem_append_right _ (by rw [Option.some.inj h2]; exact List.mem_singleton.mpr rfl), h3⟩, m.pos⟩
theorem Mid.skip {ss xs : List Str} {i j : Nat} {r : TRow} (m : Mid ss xs i j r) : Mid ss xs i (j + 1) r := ⟨m.nod, fun t ht => by
  obtain ⟨b, x, e, h2⟩ := m.key t ht
  refine ⟨b, x, e, h2.imp id fun h3 => ⟨h3.1, ?_⟩⟩
  rw [List.take_add_one]
  exact List.mem_append_left _ h3.2, m.pos⟩
theorem take_no {l : List Str} (n : l.Nodup) {j : Nat} {x : Str} (h : l[j]? = some x) : x ∉ l.take j := fun m => by
  obtain ⟨t, ht, et⟩ := List.getElem_of_mem m
  rw [List.getElem_take] at et
  obtain ⟨jl, ej⟩ := List.getElem?_eq_some_iff.mp h
  have lt : t < j := by
    rw [List.length_take] at ht
    omega
  exact List.pairwise_iff_getElem.mp n t j (by rw [List.length_take] at ht; omega) jl lt (et.trans ej.symm)
theorem Mid.put {ss xs : List Str} {i j : Nat} {r : TRow} {a x : Str} {n : Int} (m : Mid ss xs i j r) (hs : NamesOk ss) (hx : NamesOk xs) (ha : ss[i]? = some a) (hu : xs[j]? = some x) (h0 : 0 < n) (h1 : n < 10 ^ 30) : Mid ss xs i (j + 1) (r ++ [(key2 a x, n)]) := by
  refine ⟨?_, fun t ht => ?_, fun t ht => ?_⟩
  · rw [List.map_append, List.nodup_append]
    refine ⟨m.nod, List.nodup_cons.mpr ⟨List.not_mem_nil, List.nodup_nil⟩, fun k hk k' hk' e => ?_⟩
    obtain ⟨t, ht, rfl⟩ := List.mem_map.mp hk
    obtain rfl := List.mem_singleton.mp hk'
    obtain ⟨b, y, e2, h⟩ := m.key t ht
    obtain ⟨rfl, rfl⟩ := Tb.key2_inj (e2.symm.trans e)
    rcases h with ⟨h2, _⟩ | ⟨_, h2⟩
    · exact take_no hs.nod ha h2
    · exact take_no hx.nod hu h2
  · rcases List.mem_append.mp ht with ht | ht
    · exact (Mid.skip m).key t ht
    · obtain rfl := List.mem_singleton.mp ht
      refine ⟨a, x, rfl, .inr ⟨ha, ?_⟩⟩
      rw [List.take_add_one, hu]
      exact List.mem_append_right _ (List.mem_singleton.mpr rfl)
  · rcases List.mem_append.mp ht with ht | ht
    · exact m.pos t ht
    · obtain rfl := List.mem_singleton.mp ht
      exact ⟨h0, h1⟩
theorem Mid.done {ss xs : List Str} {r : TRow} (m : Mid ss xs ss.length 0 r) : WorthsOk ss xs r := ⟨m.nod, (fun t ht => by
  obtain ⟨a, x, e, h⟩ := m.key t ht
  rcases h with ⟨h1, h2⟩ | ⟨h1, h2⟩
  · exact ⟨a, List.mem_of_mem_take h1, x, h2, e⟩
  · rw [List.take_zero] at h2
    cases h2), m.pos⟩
theorem But.new {p l : Addr} {H H' : Hp} {o : HO} (nl : H l = none) (h : But p (upd H l o) H') : But p H H' := fun b u hb ne => h b u (by
  rw [upd_ne (ne_of_none hb nl)]
  exact hb) ne
theorem Pen.new {H : Hp} {p q l : Addr} {ns : List Int} {s g : Int} {o : HO} (nl : H l = none) (h : Pen H p q ns s g) : Pen (upd H l o) p q ns s g := ⟨by
  rw [upd_ne (ne_of_none h.p nl)]
  exact h.p, by
  rw [upd_ne (ne_of_none h.q nl)]
  exact h.q⟩
theorem But.trans {p : Addr} {H H1 H2 : Hp} (a : But p H H1) (b : But p H1 H2) : But p H H2 := fun c o h n => b c o (a c o h n) n
theorem pick_ints {H : Hp} {p q : Addr} {ns : List Int} {s g : Int} {ks : List Int} {Q : VK} {E : XK} (hP : Pen H p q ns s g) (hl : ns.length ≤ 63) (h0 : 0 ≤ s) (h1 : s < 100000) (z0 : 0 < ks.length) (z1 : ks.length < 100000) {l : Addr} (nl : H l = none)
    (k : ∀ (n s' g' : Int) (H' : Hp), n ∈ ks → s ≤ s' → s' ≤ s + 1 → Pen H' p q ns s' g' → But p H H' → Q (.int n) H') : spPick [.ref p, .ref l] (upd H l (.lst (ks.map V.int))) Q E :=
  ⟨p, q, ns, s, g, l, ks.map V.int, rfl, hP.new nl, hl, h0, h1, upd_same, (ne_of_none hP.p nl).symm, by rw [List.length_map]; exact z0, by rw [List.length_map]; exact z1, fun v s' g' H' hv a1 a2 a3 a4 => by
    obtain ⟨n, hn, rfl⟩ := List.mem_map.mp hv
    exact k n s' g' H' hn a1 a2 a3 (a4.new nl)⟩
theorem pick_lists {H : Hp} {p q : Addr} {ns : List Int} {s g : Int} {X Y : List Str} {Q : VK} {E : XK} (hP : Pen H p q ns s g) (hl : ns.length ≤ 63) (h0 : 0 ≤ s) (h1 : s < 100000) {l1 l2 l3 : Addr} (n1 : H l1 = none) (n2 : upd H l1 (.lst (X.map V.str)) l2 = none)
    (n3 : upd (upd H l1 (.lst (X.map V.str))) l2 (.lst (Y.map V.str)) l3 = none)
    (k : ∀ (a : Addr) (ss : List Str) (s' g' : Int) (H' : Hp), ss = X ∨ ss = Y → H' a = some (.lst (ss.map V.str)) → a ≠ p → s ≤ s' → s' ≤ s + 1 → Pen H' p q ns s' g' → But p H H' → Q (.ref a) H') :
    spPick [.ref p, .ref l3] (upd (upd (upd H l1 (.lst (X.map V.str))) l2 (.lst (Y.map V.str))) l3 (.lst [.ref l1, .ref l2])) Q E := by
  have p1 := hP.new (o := .lst (X.map V.str)) n1
  have p2 := p1.new (o := .lst (Y.map V.str)) n2
  have p3 := p2.new (o := .lst [.ref l1, .ref l2]) n3
  have a1 : upd (upd (upd H l1 (.lst (X.map V.str))) l2 (.lst (Y.map V.str))) l3 (.lst [.ref l1, .ref l2]) l1 = some (.lst (X.map V.str)) := by
    have z : upd H l1 (.lst (X.map V.str)) l1 = some (.lst (X.map V.str)) := upd_same
    have z2 := Ex.new (o := .lst (Y.map V.str)) n2 _ _ z
    exact Ex.new (o := .lst [.ref l1, .ref l2]) n3 _ _ z2
  have a2 : upd (upd (upd H l1 (.lst (X.map V.str))) l2 (.lst (Y.map V.str))) l3 (.lst [.ref l1, .ref l2]) l2 = some (.lst (Y.map V.str)) := Ex.new (o := .lst [.ref l1, .ref l2]) n3 _ _ upd_same
  have e1 : l1 ≠ p := (ne_of_none hP.p n1).symm
  have e2 : l2 ≠ p := (ne_of_none p1.p n2).symm
  refine ⟨p, q, ns, s, g, l3, [.ref l1, .ref l2], rfl, p3, hl, h0, h1, upd_same, (ne_of_none p2.p n3).symm, by show 0 < 2; decide, by show 2 < 100000; decide, fun v s' g' H' hv b1 b2 b3 b4 => ?_⟩
  have bt := ((b4.new n3).new n2).new n1
  rcases List.mem_cons.mp hv with rfl | hv
  · exact k l1 X s' g' H' (.inl rfl) (b4 _ _ a1 e1) e1 b1 b2 b3 bt
  · obtain rfl := List.mem_singleton.mp hv
    exact k l2 Y s' g' H' (.inr rfl) (b4 _ _ a2 e2) e2 b1 b2 b3 bt
/-- what is kept while worths are drawn -/
def Kept (p d : Addr) (H H' : Hp) : Prop := ∀ b o, H b = some o → b ≠ p → b ≠ d → H' b = some o
section
variable {P : Program} {w : World} {K : PySem.W.Frag} {mg : Str → Option Value} {base : Heap} {f fD fP : Addr} {fd fdD fdP : FuncData}
theorem ok_plain (F : Fun K "_law_plain" "_law_plain" sPlain f fd) (GP : FnOk P w K mg base CX0 2 fP fdP ["pen", "some"] spPick) (bP : Binds K fdP ["pen", "some"] []) (gP : mg "_law_pick" = some (.ref fP)) (kP : PySem.W.keepIn K (.ref fP) = true)
    (G : FnOk P w K mg base CX0 1 fD fdD ["pen", "many"] spDraw) (b : Binds K fdD ["pen", "many"] []) (gD : mg "_law_draw" = some (.ref fD)) (kD : PySem.W.keepIn K (.ref fD) = true) : FnOk P w K mg base CX0 3 f fd ["pen", "most"] spPlain := by
  have nd := scPlain.nd
  refine F.ok scPlain (fun vs H Q E h => ?_) (fun cdv A outer s H vs Q E hr h => ?_)
  · obtain ⟨p, q, ns, s, g, m, rfl, _⟩ := h
    rfl
  · obtain ⟨p, q, ns, s, g, m, rfl, hP, hl, h0, h1, m0, m1, k⟩ := h
    refine ⟨_, pss_cons (ps_set (i := 2) nd rfl (Or.inl rfl) (pe_call GP hr (by rfl) gP kP bP .nil pass0 (pa_cons (pv 0) (pa_cons (pe_lst (pa_cons (pe_lst (pa_cons pe_str (pa_cons pe_str (pa_cons pe_str (pa_cons pe_str (pa_cons pe_str (pa_cons pe_str pa_nil)))))))
        (pa_cons (pe_lst (pa_cons pe_str (pa_cons pe_str (pa_cons pe_str (pa_cons pe_str (pa_cons pe_str (pa_cons pe_str pa_nil))))))) pa_nil))) pa_nil))))
      (pss_cons (ps_set (i := 3) nd rfl (Or.inl rfl) (pe_slice sl_list (pv 2) po_none (po_some (pe_call GP hr (by rfl) gP kP bP .nil pass0 (pa_cons (pv 0) (pa_cons (pe_lst (pa_cons pe_int (pa_cons pe_int (pa_cons pe_int (pa_cons pe_int (pa_cons pe_int (pa_cons pe_int pa_nil))))))) pa_nil))))))
      (pss_cons (ps_set (i := 4) nd rfl (Or.inl rfl) (pe_call GP hr (by rfl) gP kP bP .nil pass0 (pa_cons (pv 0) (pa_cons (pe_lst (pa_cons (pe_lst (pa_cons pe_str (pa_cons pe_str (pa_cons pe_str (pa_cons pe_str (pa_cons pe_str (pa_cons pe_str pa_nil)))))))
        (pa_cons (pe_lst (pa_cons pe_str (pa_cons pe_str (pa_cons pe_str (pa_cons pe_str (pa_cons pe_str (pa_cons pe_str pa_nil))))))) pa_nil))) pa_nil))))
      (pss_cons (ps_set (i := 4) nd rfl (Or.inl rfl) (pe_slice sl_list (pv 4) po_none (po_some (pe_call GP hr (by rfl) gP kP bP .nil pass0 (pa_cons (pv 0) (pa_cons (pe_lst (pa_cons pe_int (pa_cons pe_int (pa_cons pe_int (pa_cons pe_int (pa_cons pe_int (pa_cons pe_int pa_nil))))))) pa_nil))))))
      (pss_cons (ps_set (i := 5) nd rfl (Or.inl rfl) pe_dnewT)
      (pss_cons (ps_for PassesOwn.never rfl (pi_list (pv 3)) (pg_name (i := 6) nd rfl (Or.inl rfl)) (pss_one (ps_for PassesOwn.never rfl (pi_list (pv 4)) (pg_name (i := 7) nd rfl (Or.inl rfl))
        (pss_cons (ps_set (i := 8) nd rfl (Or.inl rfl) (pe_call GP hr (by rfl) gP kP bP .nil pass0 (pa_cons (pv 0) (pa_cons (pe_lst (pa_cons pe_int (pa_cons pe_int (pa_cons pe_int (pa_cons (pe_op op_add pe_int (pe_call G (hr.mono (by decide)) (by rfl) gD kD b .nil pass0 (pa_cons (pv 0) (pa_cons pe_int pa_nil))))
          (pa_cons (pe_call G (hr.mono (by decide)) (by rfl) gD kD b .nil pass0 (pa_cons (pv 0) (pa_cons (pv 1) pa_nil))) pa_nil)))))) pa_nil))))
        (pss_one (ps_if (pt_cmpR op_gt (pv 8) pe_int (nomark _)) (pss_one (ps_dput (hu_of hr) (pv 5) (pe_tup (pa_cons (pv 6) (pa_cons (pv 7) pa_nil))) (pv 8) rfl)) pss_nil))))))
      (pss_one (ps_ret (pe_tup (pa_cons (pv 3) (pa_cons (pv 4) (pa_cons (pv 5) pa_nil))))))))))), ?_⟩
    -- pool
    refine ⟨_, rfl, by show 6 ≤ sizeLine; decide, fun l1 n1 => ⟨by show 6 ≤ sizeLine; decide, fun l2 n2 => ⟨by show 2 ≤ sizeLine; decide, fun l3 n3 => ?_⟩⟩⟩
    refine pick_lists (E := E0) (X := poolA) (Y := poolB) hP hl h0 (by omega) n1 n2 n3 fun a1 P1 s1 g1 H1 c1 ha1 na1 u1 v1 hP1 b1 => ?_
    -- sources_so
    refine ⟨_, rfl, _, rfl, by show 6 ≤ sizeLine; decide, fun l4 n4 => ?_⟩
    refine pick_ints (E := E0) (ks := [1, 2, 2, 3, 6, 0]) hP1 hl (by omega) (by omega) (by decide) (by decide) n4 fun k1 s2 g2 H2 hk1 u2 v2 hP2 b2 => ⟨k1, rfl, a1, _, rfl, SqL.of (b2 _ _ ha1 na1), fun a3 n5 => ?_⟩
    have kk1 : k1 = 0 ∨ k1 = 1 ∨ k1 = 2 ∨ k1 = 3 ∨ k1 = 6 := by
      simp only [List.mem_cons, List.not_mem_nil, or_false] at hk1
      omega
    have P16 : P1.length = 6 := by rcases c1 with rfl | rfl <;> rfl
    have ok1 : NamesOk (P1.take k1.toNat) := by
      rcases c1 with rfl | rfl
      · exact (pools_ok k1 kk1).1
      · exact (pools_ok k1 kk1).2.1
    rw [cut_str P16 k1 kk1]
    generalize P1.take k1.toNat = ss at ok1
    have e3 := Ex.new (o := .lst (ss.map V.str)) n5
    have ha3 : upd H2 a3 (.lst (ss.map V.str)) a3 = some (.lst (ss.map V.str)) := upd_same
    have na3 : a3 ≠ p := (ne_of_none hP2.p n5).symm
    have hP3 := hP2.new (o := .lst (ss.map V.str)) n5
    have b3 : But p H (upd H2 a3 (.lst (ss.map V.str))) := fun c o hc ne => e3 _ _ (b2 _ _ (b1 _ _ hc ne) ne)
    generalize upd H2 a3 (.lst (ss.map V.str)) = H3 at ha3 hP3 b3 ⊢
    -- uses_so
    refine ⟨_, rfl, by show 6 ≤ sizeLine; decide, fun l5 n6 => ⟨by show 6 ≤ sizeLine; decide, fun l6 n7 => ⟨by show 2 ≤ sizeLine; decide, fun l7 n8 => ?_⟩⟩⟩
    refine pick_lists (E := E0) (X := poolC) (Y := poolD) hP3 hl (by omega) (by omega) n6 n7 n8 fun a4 P2 s4 g4 H4 c2 ha4 na4 u4 v4 hP4 b4 => ?_
    refine ⟨_, rfl, _, rfl, by show 6 ≤ sizeLine; decide, fun l9 n9 => ?_⟩
    refine pick_ints (E := E0) (ks := [1, 2, 2, 3, 6, 0]) hP4 hl (by omega) (by omega) (by decide) (by decide) n9 fun k2 s5 g5 H5 hk2 u5 v5 hP5 b5 => ⟨k2, rfl, a4, _, rfl, SqL.of (b5 _ _ ha4 na4), fun a5 n10 => ?_⟩
    have kk2 : k2 = 0 ∨ k2 = 1 ∨ k2 = 2 ∨ k2 = 3 ∨ k2 = 6 := by
      simp only [List.mem_cons, List.not_mem_nil, or_false] at hk2
      omega
    have P26 : P2.length = 6 := by rcases c2 with rfl | rfl <;> rfl
    have ok2 : NamesOk (P2.take k2.toNat) := by
      rcases c2 with rfl | rfl
      · exact (pools_ok k2 kk2).2.2.1
      · exact (pools_ok k2 kk2).2.2.2
    rw [cut_str P26 k2 kk2]
    generalize P2.take k2.toNat = xs at ok2
    have e6 := Ex.new (o := .lst (xs.map V.str)) n10
    have ha5 : upd H5 a5 (.lst (xs.map V.str)) a5 = some (.lst (xs.map V.str)) := upd_same
    have na5 : a5 ≠ p := (ne_of_none hP5.p n10).symm
    have hP6 := hP5.new (o := .lst (xs.map V.str)) n10
    have b6 : But p H3 (upd H5 a5 (.lst (xs.map V.str))) := fun c o hc ne => e6 _ _ (b5 _ _ (b4 _ _ hc ne) ne)
    have ha3' := b6 _ _ ha3 na3
    have b36 := b3.trans b6
    generalize upd H5 a5 (.lst (xs.map V.str)) = H6 at ha5 hP6 b36 ha3' ⊢
    -- found
    intro d nd'
    have dp : d ≠ p := (ne_of_none hP6.p nd').symm
    have d3 : a3 ≠ d := ne_of_none ha3' nd'
    have d5 : a5 ≠ d := ne_of_none ha5 nd'
    have hd : upd H6 d (.dT []) d = some (.dT (tents [])) := upd_same
    have hP7 := hP6.new (o := .dT []) nd'
    have ha37 := Ex.new (o := .dT []) nd' _ _ ha3'
    have ha57 := Ex.new (o := .dT []) nd' _ _ ha5
    have b7 : ∀ c o, H c = some o → c ≠ p → upd H6 d (.dT []) c = some o ∧ c ≠ d := fun c o hc ne => ⟨Ex.new (o := .dT []) nd' _ _ (b36 _ _ hc ne), ne_of_none (b36 _ _ hc ne) nd'⟩
    generalize upd H6 d (.dT []) = H7 at hd hP7 ha37 ha57 b7 ⊢
    have qp : q ≠ p := hP.ne.symm
    have qd : ∀ {H' : Hp} {g' s' : Int} {r : TRow}, Pen H' p q ns s' g' → H' d = some (.dT (tents r)) → q ≠ d := fun x y => ne_of x.q y (fun z => nomatch z)
    refine ⟨_, rfl, a3, rfl, ⟨_, SqL.of ha37⟩, for_list (xs := ss.map V.str) (fun i sg H' => ∃ (s' g' : Int) (o6 o7 o8 : Option V) (r : TRow), sg = [some (.ref p), some (.int m), some (.ref a1), some (.ref a3), some (.ref a5), some (.ref d), o6, o7, o8] ∧ Pen H' p q ns s' g' ∧ s ≤ s' ∧ s' ≤ s + 4 + 18 * i ∧ H' d = some (.dT (tents r)) ∧ Mid ss xs i 0 r ∧ Kept p d H7 H')
      ⟨s5, g5, none, none, none, [], rfl, hP7, by omega, by omega, hd, ⟨List.nodup_nil, (fun t ht => nomatch ht), (fun t ht => nomatch ht)⟩, fun _ _ h _ _ => h⟩ (fun i sg H' _ ⟨_, _, _, _, _, _, _, _, _, _, _, _, kp⟩ => SqL.of (kp _ _ ha37 na3 d3)) (fun i z sg H' hi ⟨s', g', o6, o7, o8, r, esg, pn, i1, i2, i3, i4, kp⟩ => ?_) (fun sg H' ⟨s', g', o6, o7, o8, r, esg, pn, i1, i2, i3, i4, kp⟩ => ?_)⟩
    · subst esg
      rw [List.getElem?_map] at hi
      obtain ⟨a, ha, rfl⟩ := Option.map_eq_some_iff.mp hi
      have ilt : i < ss.length := (List.getElem?_eq_some_iff.mp ha).1
      have il : i < 6 := Nat.lt_of_lt_of_le ilt ok1.few
      refine ⟨_, rfl, a5, rfl, ⟨_, SqL.of (kp _ _ ha57 na5 d5)⟩, for_list (xs := xs.map V.str) (fun j sg H' => ∃ (s' g' : Int) (o7 o8 : Option V) (r : TRow), sg = [some (.ref p), some (.int m), some (.ref a1), some (.ref a3), some (.ref a5), some (.ref d), some (.str a), o7, o8] ∧ Pen H' p q ns s' g' ∧ s ≤ s' ∧ s' ≤ s + 4 + 18 * i + 3 * j ∧ H' d = some (.dT (tents r)) ∧ Mid ss xs i j r ∧ Kept p d H7 H')
        ⟨s', g', o7, o8, r, rfl, pn, i1, by omega, i3, i4, kp⟩ (fun j sg H' _ ⟨_, _, _, _, _, _, _, _, _, _, _, kp⟩ => SqL.of (kp _ _ ha57 na5 d5)) (fun j z sg H' hj ⟨s', g', o7, o8, r, esg, pn, i1, i2, i3, i4, kp⟩ => ?_) (fun sg H' ⟨s', g', o7, o8, r, esg, pn, i1, i2, i3, i4, kp⟩ => ?_)⟩
      · subst esg
        rw [List.getElem?_map] at hj
        obtain ⟨u, hu, rfl⟩ := Option.map_eq_some_iff.mp hj
        have jlt : j < xs.length := (List.getElem?_eq_some_iff.mp hu).1
        have jl : j < 6 := Nat.lt_of_lt_of_le jlt ok2.few
        refine ⟨_, rfl, _, rfl, p, q, ns, s', g', 9, rfl, pn, hl, by omega, by omega, by decide, by decide, fun w1 sa ga Ha wa wb sa1 sa2 pna ba => ⟨1, w1, rfl, rfl, ?_⟩⟩
        refine ⟨_, rfl, _, rfl, p, q, ns, sa, ga, m, rfl, pna, hl, by omega, by omega, m0, m1, fun w2 sb gb Hb wc wd sb1 sb2 pnb bb => ⟨by show 5 ≤ sizeLine; decide, fun l nl => ?_⟩⟩
        refine pick_ints (E := E0) (ks := [0, 0, 1, 1 + w1, w2]) pnb hl (by omega) (by omega) (by show 0 < 5; decide) (by show 5 < 100000; decide) nl fun n sc gc Hc hn sc1 sc2 pnc bc => ?_
        have n30 : n < 10 ^ 30 := by
          simp only [List.mem_cons, List.not_mem_nil, or_false] at hn
          omega
        have kept : Kept p d H' Hc := fun c o hc ne _ => bc _ _ (bb _ _ (ba _ _ hc ne) ne) ne
        have kp2 : Kept p d H7 Hc := fun c o hc n1 n2 => kept _ _ (kp _ _ hc n1 n2) n1 n2
        have hdc : Hc d = some (.dT (tents r)) := bc _ _ (bb _ _ (ba _ _ i3 dp) dp) dp
        refine ⟨_, rfl, n, 0, rfl, rfl, _, rfl, ?_⟩
        by_cases c : 0 < n
        · rw [decide_eq_true c]
          dsimp only
          rw [if_pos rfl]
          refine ⟨_, rfl, _, rfl, _, rfl, _, rfl, by show 2 ≤ sizeLine; decide, fun t nt => ?_⟩
          have e9 := Ex.new (o := .tup [.str a, .str u]) nt
          have hd9 := e9 _ _ hdc
          have m9 := i4.put ok1 ok2 ha hu c n30
          have lr := i4.len ok1 ok2
          refine ⟨d, _, rfl, DPut.t (k := key2 a u) hd9 upd_same (by unfold tents; rw [List.length_map, sizeLine_eq]; omega), ?_⟩
          rw [Tb.tents_put m9.nod]
          refine ⟨sc, gc, _, _, r ++ [(key2 a u, n)], rfl, ⟨?_, ?_⟩, by omega, by omega, upd_same, m9, fun x o hx n1 n2 => ?_⟩
          · rw [upd_ne dp.symm]
            exact e9 _ _ pnc.p
          · rw [upd_ne (qd pnc hdc)]
            exact e9 _ _ pnc.q
          · rw [upd_ne n2]
            exact e9 _ _ (kp2 _ _ hx n1 n2)
        · rw [decide_eq_false c]
          dsimp only [tNext]
          rw [if_neg Bool.false_ne_true]
          exact ⟨sc, gc, _, _, r, rfl, pnc, by omega, by omega, hdc, i4.skip, kp2⟩
      · subst esg
        rw [List.length_map] at i2 i4
        have : xs.length ≤ 6 := ok2.few
        exact ⟨s', g', _, _, _, r, rfl, pn, i1, by omega, i3, i4.step_i ha, kp⟩
    · subst esg
      rw [List.length_map] at i2 i4
      have : ss.length ≤ 6 := ok1.few
      refine ⟨_, rfl, _, rfl, _, rfl, by show 3 ≤ sizeLine; decide, fun t nt => ?_⟩
      have e9 := Ex.new (o := .tup [.ref a3, .ref a5, .ref d]) nt
      exact k (.ref t) ss xs r s' g' _ ⟨ok1, ok2, i4.done⟩ ⟨t, a3, a5, d, rfl, upd_same, e9 _ _ (kp _ _ ha37 na3 d3), e9 _ _ (kp _ _ ha57 na5 d5), e9 _ _ i3⟩ i1 (by omega) (pn.new nt) fun c o hc ne => e9 _ _ (kp _ _ (b7 _ _ hc ne).1 ne (b7 _ _ hc ne).2)
end
end K06

set_option Elab.async false
set_option linter.all false
set_option maxRecDepth 100000
set_option maxHeartbeats 4000000
/-! _law_rows: the rows that a table is made of. -/
namespace K06
open PySem PySem.Spec PyProof.Rows L2
open DtE (TRow tents lookT valV_tents)
open Tb (key2 PairK Oks Tab TabAt TabOk worths wk rowsO)
open Fk (NameV nameB ents)
open EvP (Ex)
abbrev sRows : Stmt := top 44
abbrev NW : List Str := ["pen", "plain", "sources_so", "uses_so", "found", "rows_so", "turned", "source", "row", "some", "use"]
theorem scRows : FnScope NW ["pen", "plain"] (defScope sRows) := ⟨rfl, rfl, rfl, by decide +kernel, rfl, by decide +kernel, by decide +kernel⟩
/-- a row of the worths r: some of the names, each with its worth, all of those with a worth among them -/
structure RowOf (r : TRow) (a : Str) (xs : List Str) (row : Fk.Row) : Prop where
  nod : (row.map (·.1)).Nodup
  mem : ∀ e ∈ row, e.1 ∈ xs ∧ e.2 = wk r (key2 a e.1)
  all : ∀ x ∈ xs, (lookT r (key2 a x)).isSome = true → x ∈ row.map (·.1)
/-- the rows of these sources -/
structure TabOf (r : TRow) (L xs : List Str) (T : Tab) : Prop where
  names : T.map (·.1) = L
  nodA : (T.map (·.2.1)).Nodup
  row : ∀ t ∈ T, RowOf r t.1 xs t.2.2
def spRows : Sp := fun vs H Q _ => ∃ (p q : Addr) (ns : List Int) (s g : Int) (v : V) (ss xs : List Str) (r : TRow), vs = [.ref p, v] ∧ Pen H p q ns s g ∧ ns.length ≤ 63 ∧ 0 ≤ s ∧ s < 99000 ∧ PlainAt H v ss xs r ∧ (∀ c, v = .ref c → c ≠ p) ∧ PlainOk ss xs r ∧
  ∀ (t d u : Addr) (T : Tab) (L : List Str) (s' g' : Int) (H' : Hp), H' t = some (.tup [.ref d, .ref u]) → TabAt H' d T → L.Perm ss → TabOf r L xs T → H' u = some (.lst (xs.map V.str)) → s ≤ s' → s' ≤ s + 100 → Pen H' p q ns s' g' → But p H H' → Q (.ref t) H'
theorem strs_ne {H : Hp} {p q a : Addr} {ns : List Int} {s g : Int} {ss : List Str} (hP : Pen H p q ns s g) (h : H a = some (.lst (ss.map V.str))) : a ≠ p := fun e => by
  rw [e, hP.p] at h
  have z := HO.lst.inj (Option.some.inj h)
  match ss, z with
  | [], z => cases z
  | x :: r, z => cases (List.cons.inj z).1
/-- a row amid its making -/
structure RowMid (r : TRow) (a : Str) (M : List Str) (j : Nat) (row : Fk.Row) : Prop where
  nod : (row.map (·.1)).Nodup
  mem : ∀ e ∈ row, e.1 ∈ M.take j ∧ e.2 = wk r (key2 a e.1)
  all : ∀ x ∈ M.take j, (lookT r (key2 a x)).isSome = true → x ∈ row.map (·.1)
theorem RowMid.put {r : TRow} {a x : Str} {M : List Str} {j : Nat} {row : Fk.Row} (m : RowMid r a M j row) (n : M.Nodup) (h : M[j]? = some x) : RowMid r a M (j + 1) (row ++ [(x, wk r (key2 a x))]) := by
  have tk : M.take (j + 1) = M.take j ++ [x] := by
    rw [List.take_add_one, h]
    rfl
  refine ⟨?_, fun e he => ?_, fun y hy iy => ?_⟩
  · rw [List.map_append, List.nodup_append]
    refine ⟨m.nod, List.nodup_cons.mpr ⟨List.not_mem_nil, List.nodup_nil⟩, fun k hk k' hk' e => ?_⟩
    obtain ⟨z, hz, rfl⟩ := List.mem_map.mp hk
    obtain rfl := List.mem_singleton.mp hk'
    exact take_no n h (by rw [← e]; exact (m.mem z hz).1)
  · rw [tk]
    rcases List.mem_append.mp he with he | he
    · exact ⟨List.mem_append_left _ (m.mem e he).1, (m.mem e he).2⟩
    · obtain rfl := List.mem_singleton.mp he
      exact ⟨List.mem_append_right _ (List.mem_singleton.mpr rfl), rfl⟩
  · rw [tk] at hy
    rw [List.map_append]
    rcases List.mem_append.mp hy with hy | hy
    · exact List.mem_append_left _ (m.all y hy iy)
    · obtain rfl := List.mem_singleton.mp hy
      exact List.mem_append_right _ (List.mem_singleton.mpr rfl)
theorem RowMid.skip {r : TRow} {a x : Str} {M : List Str} {j : Nat} {row : Fk.Row} (m : RowMid r a M j row) (h : M[j]? = some x) (no : (lookT r (key2 a x)).isSome = false) : RowMid r a M (j + 1) row := by
  have tk : M.take (j + 1) = M.take j ++ [x] := by
    rw [List.take_add_one, h]
    rfl
  refine ⟨m.nod, fun e he => ?_, fun y hy iy => ?_⟩
  · rw [tk]
    exact ⟨List.mem_append_left _ (m.mem e he).1, (m.mem e he).2⟩
  · rw [tk] at hy
    rcases List.mem_append.mp hy with hy | hy
    · exact m.all y hy iy
    · obtain rfl := List.mem_singleton.mp hy
      rw [no] at iy
      cases iy
theorem ents_new {row : Fk.Row} {x : Str} {n : Int} (h : x ∉ row.map (·.1)) : putK (ents row) (Sum.inr x) (.int n) = ents (row ++ [(x, n)]) := by
  have z : valV (ents row) (Sum.inr x) = none := by
    have no : ¬ ((ents row).any fun kv => decide (kv.1 = (Sum.inr x : Key))) = true := fun y => by
      obtain ⟨e, he, ee⟩ := List.any_eq_true.mp y
      unfold ents at he
      obtain ⟨t, ht, rfl⟩ := List.mem_map.mp he
      exact h (List.mem_map.mpr ⟨t, ht, Sum.inr.inj (of_decide_eq_true ee)⟩)
    rw [valV_any] at no
    simpa using no
  rw [putK_new _ z]
  unfold ents
  rw [List.map_append]
  rfl
theorem rows_new {T : Tab} {x : Str} {d : Addr} {row : Fk.Row} (h : x ∉ T.map (·.1)) : putK (T.map fun t => ((Sum.inr t.1 : Key), V.ref t.2.1)) (Sum.inr x) (.ref d) = (T ++ [(x, d, row)]).map fun t => (Sum.inr t.1, V.ref t.2.1) := by
  have z : valV (T.map fun t => ((Sum.inr t.1 : Key), V.ref t.2.1)) (Sum.inr x) = none := by
    have no : ¬ ((T.map fun t => ((Sum.inr t.1 : Key), V.ref t.2.1)).any fun kv => decide (kv.1 = (Sum.inr x : Key))) = true := fun y => by
      obtain ⟨e, he, ee⟩ := List.any_eq_true.mp y
      obtain ⟨t, ht, rfl⟩ := List.mem_map.mp he
      exact h (List.mem_map.mpr ⟨t, ht, Sum.inr.inj (of_decide_eq_true ee)⟩)
    rw [valV_any] at no
    simpa using no
  rw [putK_new _ z, List.map_append]
  rfl
/-- a list of names, or it turned about -/
theorem g_rev {K : PySem.W.Frag} {σ : L2.St} {H : Hp} {m : Nat} {a : Addr} {ss : List Str} {Q : VK} {c : Bool} (hm : σ[m]? = some (some (.ref a))) (ha : H a = some (.lst (ss.map V.str))) (k : ∀ (la : Addr) (L : List Str) (H' : Hp), L.Perm ss → H' la = some (.lst (L.map V.str)) → Ex H H' → Q (.ref la) H') :
    if c = true then tRevL K (tVar m) σ H Q else tVar m σ H Q := by
  cases c with
  | true =>
    rw [if_pos rfl]
    exact ⟨_, hm, a, _, rfl, SqL.of ha, fun p hp => k p ss.reverse _ (List.reverse_perm _) (by rw [upd_same, List.map_reverse]) (Ex.new hp)⟩
  | false =>
    rw [if_neg Bool.false_ne_true]
    exact ⟨_, hm, k a ss H (List.Perm.refl _) ha (Ex.refl H)⟩
theorem getD_wk (r : TRow) (k : List Key) : (valV (tents r) k).getD (.int 0) = .int (wk r k) := by
  rw [valV_tents]
  unfold wk
  cases lookT r k <;> rfl
/-- row[use] = found.get((source, use), 0) -/
theorem put_at {σ : L2.St} {Hx : Hp} {D : Ends} {dr d : Addr} {sc u : Str} {r : TRow} {row : Fk.Row} (h8 : σ[8]? = some (some (.ref dr))) (h10 : σ[10]? = some (some (.str u))) (h4 : σ[4]? = some (some (.ref d))) (h7 : σ[7]? = some (some (.str sc)))
    (hr : Hx dr = some (.dK (ents row))) (hd : Hx d = some (.dT (tents r))) (no : u ∉ row.map (·.1)) (few : row.length ≤ 100) (k : ∀ Hy : Hp, (∀ c o, Hx c = some o → c ≠ dr → Hy c = some o) → Hy dr = some (.dK (ents (row ++ [(u, wk r (key2 sc u))]))) → D.nx σ Hy) :
    sDPut (tVar 8) (tVar 10) (tDGet2 (tVar 4) (tTup (tCons (tVar 7) (tCons (tVar 10) tNil))) (tC (.int 0))) D σ Hx := by
  refine ⟨_, h4, d, rfl, .inr ⟨_, .inl hd⟩, _, h7, _, h10, by show 2 ≤ sizeLine; decide, fun tq nq => ?_⟩
  have e := Ex.new (o := .tup [.str sc, .str u]) nq
  refine ⟨_, DGet.t (k := key2 sc u) (e _ _ hd) upd_same, ?_⟩
  rw [getD_wk]
  refine ⟨_, h8, _, h10, dr, _, rfl, DPut.k (k := Sum.inr u) (e _ _ hr) (by unfold ents; rw [List.length_map, sizeLine_eq]; omega), ?_⟩
  rw [ents_new no]
  exact k _ (fun c o hc ne => by
    rw [upd_ne ne]
    exact e _ _ hc) upd_same
section
variable {P : Program} {w : World} {K : PySem.W.Frag} {mg : Str → Option Value} {base : Heap} {f fD : Addr} {fd fdD : FuncData}
theorem ok_rows (F : Fun K "_law_rows" "_law_rows" sRows f fd) (T : Blt mg)
    (G : FnOk P w K mg base CX0 1 fD fdD ["pen", "many"] spDraw) (b : Binds K fdD ["pen", "many"] []) (gD : mg "_law_draw" = some (.ref fD)) (kD : PySem.W.keepIn K (.ref fD) = true) : FnOk P w K mg base CX0 2 f fd ["pen", "plain"] spRows := by
  have nd := scRows.nd
  refine F.ok scRows (fun vs H Q E h => ?_) (fun cdv A outer s H vs Q E hr h => ?_)
  · obtain ⟨p, q, ns, s, g, v, ss, xs, r, rfl, _⟩ := h
    rfl
  · obtain ⟨p, q, ns, s, g, v, ss, xs, r, rfl, hP, hl, h0, h1, ⟨t, a, bb, d, rfl, ht, ha, hb, hd⟩, np, ok, k⟩ := h
    have hu := hu_of hr
    refine ⟨_, pss_cons (ps_asg (pv 1) (pg_tup rfl (pgs_cons (pg_name (i := 2) nd rfl (Or.inl rfl)) (pgs_cons (pg_name (i := 3) nd rfl (Or.inl rfl)) (pgs_cons (pg_name (i := 4) nd rfl (Or.inl rfl)) pgs_nil)))))
      (pss_cons (ps_par (i := 5) (j := 6) (by rfl) nd rfl rfl (by decide) rfl rfl (pa_cons pe_dnewK (pa_cons (pe_cmpR op_eq (pe_call G hr (by rfl) gD kD b .nil pass0 (pa_cons (pv 0) (pa_cons pe_int pa_nil))) pe_int (nomark _)) pa_nil)) (by rfl))
      (pss_cons (ps_for PassesOwn.never rfl (pi_list (pe_ifExp (pt_val (pv 6)) (pe_revL (pv 2)) (pv 2))) (pg_name (i := 7) nd rfl (Or.inl rfl))
        (pss_cons (ps_par (i := 8) (j := 9) (by rfl) nd rfl rfl (by decide) rfl rfl (pa_cons pe_dnewK (pa_cons (pe_ifExp (pt_cmpR op_eq (pe_call G hr (by rfl) gD kD b .nil pass0 (pa_cons (pv 0) (pa_cons pe_int pa_nil))) pe_int (nomark _)) (pe_revL (pv 3)) (pv 3)) pa_nil)) (by rfl))
        (pss_cons (ps_for PassesOwn.never rfl (pi_list (pv 9)) (pg_name (i := 10) nd rfl (Or.inl rfl))
          (pss_one (ps_if (PW.pt (pw_or (pt_cmp (pc_din hu (pe_tup (pa_cons (pv 7) (pa_cons (pv 10) pa_nil))) (pv 4))) (pw_or1 (pt_cmpR op_eq (pe_call G hr (by rfl) gD kD b .nil pass0 (pa_cons (pv 0) (pa_cons pe_int pa_nil))) pe_int (nomark _)))))
            (pss_one (ps_dput hu (pv 8) (pv 10) (pe_dget2 hu (pv 4) (pe_tup (pa_cons (pv 7) (pa_cons (pv 10) pa_nil))) pe_int ⟨rfl, rfl, rfl, rfl⟩) rfl)) pss_nil)))
        (pss_one (ps_dput hu (pv 5) (pv 7) (pv 8) rfl)))))
      (pss_one (ps_ret (pe_tup (pa_cons (pv 5) (pa_cons (pe_callTy (T := "list") call_list_of (by rfl) T.lst (by decide +kernel) (pa_cons (pv 3) pa_nil)) pa_nil))))))), ?_⟩
    refine ⟨_, rfl, t, _, rfl, SqT.of ht, rfl, _, _, rfl, _, _, rfl, _, _, rfl, rfl, ?_⟩
    intro dR nR
    have eR := Ex.new (o := .dK []) nR
    have hP1 := hP.new (o := .dK []) nR
    have hR : upd H dR (.dK []) dR = some (rowsO []) := upd_same
    have ha1 := eR _ _ ha
    have hb1 := eR _ _ hb
    have hd1 := eR _ _ hd
    have pR : dR ≠ p := (ne_of_none hP.p nR).symm
    have nbR : ∀ c o, H c = some o → c ≠ dR := fun c o hc => ne_of_none hc nR
    generalize upd H dR (.dK []) = H1 at eR hP1 hR ha1 hb1 hd1 ⊢
    refine ⟨_, rfl, p, q, ns, s, g, 2, rfl, hP1, hl, h0, by omega, by decide, by decide, fun w0 s1 g1 H2 wa wb sa1 sa2 hP2 b2 => ⟨rfl, ?_⟩⟩
    refine ⟨_, _, rfl, ?_⟩
    have ha2 := b2 _ _ ha1 (strs_ne hP1 ha1)
    have hb2 := b2 _ _ hb1 (strs_ne hP1 hb1)
    have dp : d ≠ p := ne_of hd1 hP1.p (fun z => nomatch z)
    have hd2 := b2 _ _ hd1 dp
    have hR2 := b2 _ _ hR pR
    refine ⟨_, rfl, _, rfl, g_rev (K := K) (m := 2) rfl ha2 fun la L H3 pL hla e3 => ?_⟩
    have hP3 : Pen H3 p q ns s1 g1 := ⟨e3 _ _ hP2.p, e3 _ _ hP2.q⟩
    have hb3 := e3 _ _ hb2
    have hd3 := e3 _ _ hd2
    have hR3 := e3 _ _ hR2
    have b3 : ∀ c o, H c = some o → c ≠ p → H3 c = some o := fun c o hc ne => e3 _ _ (b2 _ _ (eR _ _ hc) ne)
    have nL : L.Nodup := pL.nodup_iff.mpr ok.s.nod
    have lL : L.length ≤ 6 := by
      rw [pL.length_eq]
      exact ok.s.few
    have nap := strs_ne hP3 hla
    have nbp := strs_ne hP3 hb3
    have laR : la ≠ dR := fun z => by
      rw [z, hR3] at hla
      cases hla
    have bbR : bb ≠ dR := fun z => by
      rw [z, hR3] at hb3
      cases hb3
    have ddR : d ≠ dR := fun z => by
      rw [z, hR3] at hd3
      cases hd3
    refine ⟨la, rfl, ⟨_, SqL.of hla⟩, for_list (xs := L.map V.str) (fun i sg H' => ∃ (s' g' : Int) (o7 o8 o9 o10 : Option V) (T : Tab) (tb : Bool), sg = [some (.ref p), some (.ref t), some (.ref a), some (.ref bb), some (.ref d), some (.ref dR), some (.bl tb), o7, o8, o9, o10] ∧ Pen H' p q ns s' g' ∧ s ≤ s' ∧ s' ≤ s + 1 + 7 * i ∧ TabAt H' dR T ∧ TabOf r (L.take i) xs T ∧ Kept p dR H3 H')
      ⟨s1, g1, none, none, none, none, [], _, rfl, hP3, by omega, by omega, ⟨hR3, (fun t ht => nomatch ht)⟩, ⟨rfl, List.nodup_nil, (fun t ht => nomatch ht)⟩, fun _ _ h _ _ => h⟩ (fun i sg H' _ ⟨_, _, _, _, _, _, _, _, _, _, _, _, _, _, kp⟩ => SqL.of (kp _ _ hla nap laR)) (fun i z sg H' hi ⟨s', g', o7, o8, o9, o10, T, tb, esg, pn, i1, i2, i3, i4, kp⟩ => ?_) (fun sg H' ⟨s', g', o7, o8, o9, o10, T, tb, esg, pn, i1, i2, i3, i4, kp⟩ => ?_)⟩
    · subst esg
      rw [List.getElem?_map] at hi
      obtain ⟨sc, hsc, rfl⟩ := Option.map_eq_some_iff.mp hi
      have ilt : i < L.length := (List.getElem?_eq_some_iff.mp hsc).1
      intro dr nr
      have er := Ex.new (o := .dK []) nr
      have pn5 := pn.new (o := .dK []) nr
      have hr5 : upd H' dr (.dK []) dr = some (.dK (ents [])) := upd_same
      have tab5 := i3.ex er
      have hb5 := er _ _ (kp _ _ hb3 nbp bbR)
      have hd5 := er _ _ (kp _ _ hd3 dp ddR)
      have drp : dr ≠ p := (ne_of_none pn.p nr).symm
      have drR : dR ≠ dr := ne_of_none i3.at_ nr
      have drT : ∀ z ∈ T, z.2.1 ≠ dr := fun z hz => ne_of_none (i3.row z hz) nr
      have kp5 : ∀ c o, H3 c = some o → c ≠ p → c ≠ dR → upd H' dr (.dK []) c = some o ∧ c ≠ dr := fun c o hc n1 n2 => ⟨er _ _ (kp _ _ hc n1 n2), ne_of_none (kp _ _ hc n1 n2) nr⟩
      generalize upd H' dr (.dK []) = H5 at pn5 hr5 tab5 hb5 hd5 kp5 ⊢
      refine ⟨_, rfl, p, q, ns, s', g', 2, rfl, pn5, hl, by omega, by omega, by decide, by decide, fun w1 s4 g4 H6 wc wd sb1 sb2 hP6 b6 => ⟨rfl, _, rfl, ?_⟩⟩
      have hb6 := b6 _ _ hb5 nbp
      refine g_rev (K := K) (m := 3) rfl hb6 fun lm M H7 pM hlm e7 => ⟨_, _, rfl, ?_⟩
      have hP7 : Pen H7 p q ns s4 g4 := ⟨e7 _ _ hP6.p, e7 _ _ hP6.q⟩
      have hd7 := e7 _ _ (b6 _ _ hd5 dp)
      have hr7 := e7 _ _ (b6 _ _ hr5 drp)
      have Tp : ∀ z ∈ T, z.2.1 ≠ p := fun z hz => ne_of (tab5.row z hz) pn5.p (fun y => nomatch y)
      have tab7 : TabAt H7 dR T := ⟨e7 _ _ (b6 _ _ tab5.at_ pR), fun z hz => e7 _ _ (b6 _ _ (tab5.row z hz) (Tp z hz))⟩
      have kp7 : ∀ c o, H3 c = some o → c ≠ p → c ≠ dR → H7 c = some o ∧ c ≠ dr := fun c o hc n1 n2 => ⟨e7 _ _ (b6 _ _ (kp5 _ _ hc n1 n2).1 n1), (kp5 _ _ hc n1 n2).2⟩
      have nM : M.Nodup := pM.nodup_iff.mpr ok.u.nod
      have lM : M.length ≤ 6 := by
        rw [pM.length_eq]
        exact ok.u.few
      have lmp := strs_ne hP7 hlm
      have lmr : lm ≠ dr := fun z => by
        rw [z, hr7] at hlm
        cases hlm
      have ddr : d ≠ dr := fun z => by
        rw [z, hr7] at hd7
        cases hd7
      refine ⟨_, rfl, lm, rfl, ⟨_, SqL.of hlm⟩, for_list (xs := M.map V.str) (fun j sg H' => ∃ (s' g' : Int) (o10 : Option V) (row : Fk.Row), sg = [some (.ref p), some (.ref t), some (.ref a), some (.ref bb), some (.ref d), some (.ref dR), some (.bl tb), some (.str sc), some (.ref dr), some (.ref lm), o10] ∧ Pen H' p q ns s' g' ∧ s ≤ s' ∧ s' ≤ s + 2 + 7 * i + j ∧ H' dr = some (.dK (ents row)) ∧ RowMid r sc M j row ∧ Kept p dr H7 H')
        ⟨s4, g4, o10, [], rfl, hP7, by omega, by omega, hr7, ⟨List.nodup_nil, (fun e he => nomatch he), (fun y hy => by rw [List.take_zero] at hy; cases hy)⟩, fun _ _ h _ _ => h⟩ (fun j sg H' _ ⟨_, _, _, _, _, _, _, _, _, _, kq⟩ => SqL.of (kq _ _ hlm lmp lmr)) (fun j z sg H' hj ⟨s', g', o10, row, esg, pn, j1, j2, j3, j4, kq⟩ => ?_) (fun sg H' ⟨s', g', o10, row, esg, pn, j1, j2, j3, j4, kq⟩ => ?_)⟩
      · subst esg
        rw [List.getElem?_map] at hj
        obtain ⟨u, hu', rfl⟩ := Option.map_eq_some_iff.mp hj
        have jlt : j < M.length := (List.getElem?_eq_some_iff.mp hu').1
        have hdx := kq _ _ hd7 dp ddr
        refine ⟨_, rfl, _, rfl, by show 2 ≤ sizeLine; decide, fun tp ntp => ⟨_, rfl, d, _, rfl, DGet.t (k := key2 sc u) (Ex.new ntp _ _ hdx) upd_same, _, rfl, ?_⟩⟩
        have ep := Ex.new (o := .tup [.str sc, .str u]) ntp
        have pnp := pn.new (o := .tup [.str sc, .str u]) ntp
        have hdp := ep _ _ hdx
        have hrp := ep _ _ j3
        have kqp : Kept p dr H7 (upd H' tp (.tup [.str sc, .str u])) := fun c o hc n1 n2 => ep _ _ (kq _ _ hc n1 n2)
        generalize upd H' tp (.tup [.str sc, .str u]) = H8 at pnp hdp hrp kqp ⊢
        have no : u ∉ row.map (·.1) := fun m => by
          obtain ⟨e, he, ee⟩ := List.mem_map.mp m
          exact take_no nM hu' (by rw [← ee]; exact (j4.mem e he).1)
        have few : row.length ≤ 100 := by
          have l1 := nodup_le (m := M.take j) j4.nod fun x hx => by
            obtain ⟨e, he, rfl⟩ := List.mem_map.mp hx
            exact (j4.mem e he).1
          rw [List.length_map, List.length_take] at l1
          omega
        rw [valV_tents]
        cases hq : lookT r (key2 sc u) with
        | some n =>
          refine put_at (sc := sc) (u := u) (r := r) rfl rfl rfl rfl hrp hdp no few fun Hy k1 k2 => ?_
          exact ⟨s', g', _, _, rfl, ⟨k1 _ _ pnp.p drp.symm, k1 _ _ pnp.q (ne_of pnp.q hrp fun z => nomatch z)⟩, j1, by omega, k2, j4.put nM hu', fun c o hc n1 n2 => k1 _ _ (kqp _ _ hc n1 n2) n2⟩
        | none =>
          refine ⟨_, rfl, p, q, ns, s', g', 2, rfl, pnp, hl, by omega, by omega, by decide, by decide, fun w2 s5 g5 H9 we wf sc1 sc2 hP9 b9 => ⟨rfl, _, rfl, ?_⟩⟩
          have hd9 := b9 _ _ hdp dp
          have hr9 := b9 _ _ hrp drp
          have kq9 : Kept p dr H7 H9 := fun c o hc n1 n2 => b9 _ _ (kqp _ _ hc n1 n2) n1
          cases hw : decide (V.int w2 = V.int 0) with
          | true =>
            refine put_at (sc := sc) (u := u) (r := r) rfl rfl rfl rfl hr9 hd9 no few fun Hy k1 k2 => ?_
            exact ⟨s5, g5, _, _, rfl, ⟨k1 _ _ hP9.p drp.symm, k1 _ _ hP9.q (ne_of hP9.q hr9 fun z => nomatch z)⟩, by omega, by omega, k2, j4.put nM hu', fun c o hc n1 n2 => k1 _ _ (kq9 _ _ hc n1 n2) n2⟩
          | false => exact ⟨s5, g5, _, row, rfl, hP9, by omega, by omega, hr9, j4.skip hu' (by rw [hq]; rfl), kq9⟩
      · subst esg
        rw [List.length_map] at j2 j4
        have tabx : TabAt H' dR T := ⟨kq _ _ tab7.at_ pR drR, fun z hz => kq _ _ (tab7.row z hz) (Tp z hz) (drT z hz)⟩
        have notin : sc ∉ T.map (·.1) := by
          rw [i4.names]
          exact take_no nL hsc
        have lT : T.length ≤ 6 := by
          have := congrArg List.length i4.names
          rw [List.length_map, List.length_take] at this
          omega
        refine ⟨_, rfl, _, rfl, _, rfl, dR, _, rfl, DPut.k (k := Sum.inr sc) tabx.at_ (by rw [List.length_map, sizeLine_eq]; omega), ?_⟩
        rw [rows_new (row := row) notin]
        refine ⟨s', g', _, _, _, _, T ++ [(sc, dr, row)], tb, rfl, ⟨?_, ?_⟩, j1, by omega, ⟨upd_same, fun z hz => ?_⟩, ⟨?_, ?_, fun z hz => ?_⟩, fun c o hc n1 n2 => ?_⟩
        · rw [upd_ne pR.symm]
          exact pn.p
        · rw [upd_ne (ne_of pn.q tabx.at_ fun z => nomatch z)]
          exact pn.q
        · rcases List.mem_append.mp hz with hz | hz
          · rw [upd_ne (tabx.ne z hz)]
            exact tabx.row z hz
          · obtain rfl := List.mem_singleton.mp hz
            rw [upd_ne drR.symm]
            exact j3
        · rw [List.map_append, i4.names, List.take_add_one, hsc]
          rfl
        · rw [List.map_append, List.nodup_append]
          refine ⟨i4.nodA, List.nodup_cons.mpr ⟨List.not_mem_nil, List.nodup_nil⟩, fun x hx y hy e => ?_⟩
          obtain ⟨z, hz, rfl⟩ := List.mem_map.mp hx
          obtain rfl := List.mem_singleton.mp hy
          exact drT z hz e
        · rcases List.mem_append.mp hz with hz | hz
          · exact i4.row z hz
          · obtain rfl := List.mem_singleton.mp hz
            exact ⟨j4.nod, fun e he => ⟨pM.mem_iff.mp (List.mem_of_mem_take (j4.mem e he).1), (j4.mem e he).2⟩, fun y hy => j4.all y (by rw [List.take_length]; exact pM.mem_iff.mpr hy)⟩
        · rw [upd_ne n2]
          exact kq _ _ (kp7 _ _ hc n1 n2).1 n1 (kp7 _ _ hc n1 n2).2
    · subst esg
      rw [List.length_map] at i2 i4
      rw [List.take_length] at i4
      refine ⟨_, rfl, _, rfl, bb, _, rfl, .inl (SqL.of (kp _ _ hb3 nbp bbR)), fun u nu => ⟨by show 2 ≤ sizeLine; decide, fun tt ntt => ?_⟩⟩
      have eu := Ex.new (o := .lst (xs.map V.str)) nu
      have et := Ex.new (o := .tup [.ref dR, .ref u]) ntt
      exact k tt dR u T L s' g' _ upd_same ⟨et _ _ (eu _ _ i3.at_), fun z hz => et _ _ (eu _ _ (i3.row z hz))⟩ pL i4 (et _ _ upd_same) i1 (by omega) ((pn.new nu).new ntt) fun c o hc ne => et _ _ (eu _ _ (kp _ _ (b3 _ _ hc ne) ne (nbR _ _ hc)))
end
end K06

set_option Elab.async false
set_option linter.all false
set_option maxRecDepth 100000
set_option maxHeartbeats 4000000
/-! C(..) whose __init__ keeps its promise while no object is being shown; _law_made. -/
namespace XG
open PySem PySem.Spec PyProof.Rows L2
section
variable {X : Cx} {k : Nat} {f C : Addr} {fd : FuncData} {ps : List Str} {sp : Sp} {x : Str} {p pos : Pos} {e : Expr} {es : List Expr} {t : TA}
theorem run_makeG {pins : List (Addr × Obj)} {σ : L2.St} {H : Hp} {s : Shared} {Q : VK} {us : List Value} {vs : List V} (M : Mk X.K C f) (F : FnG X.prog X.w X.K X.mg X.base CX0 k f fd ps sp) (len : ∀ vs H Q E, sp vs H Q E → vs.length = ps.length) (gd : X.A.guards = some []) (hr : Room (k + 1) X.A) (hb : Binds X.K fd ps [])
    (I : Inv X pins σ H s) (r : Vals vs us) (h : ∀ x dx, H x = none → H dx = none → dx ≠ x → sp (.ref x :: vs) (upd (upd H dx (.own x)) x (.ins C dx [])) (fun v H2 => v = .non ∧ Q (.ref x) H2) E0) : wpAny (model X.prog X.w) X.A (call (.ref C) us) (EP X pins σ Q) X.xe s := by
  have q := h (s.heap.objs.size + 1) s.heap.objs.size (I.hok.fresh (Nat.le_succ _)) (I.hok.fresh (Nat.le_refl _)) (Nat.ne_of_lt (Nat.lt_succ_self _))
  have J := Inv.made (C := C) I
  have rr : Vals (V.ref (s.heap.objs.size + 1) :: vs) (Value.ref (s.heap.objs.size + 1) :: us) := .cons rfl r
  have n : (Value.ref (s.heap.objs.size + 1) :: us ++ []).length = ps.length := by rw [List.append_nil, ← rr.length]; exact len _ _ _ _ q
  refine wpAny_call (make_map (f := f) I.kIn M.makes M.init (beq_iff_eq.mp M.fn) (codeAny_mono (F _ X.stack _ _ ⟨Value.ref (s.heap.objs.size + 1) :: us, []⟩ (Value.ref (s.heap.objs.size + 1) :: us ++ []) _ _ E0 gd (hr.make C us []) (J.env0.make C us []) (hb _ (Value.ref (s.heap.objs.size + 1) :: us) J.kIn n) (by rw [List.append_nil]; exact rr) q) fun r' s' hq => ?_))
  cases r' with
  | error e => exact (show False from hq).elim
  | ok fl =>
    cases fl with
    | ret u =>
      obtain ⟨v, H', I3, rv, ev, q3⟩ := J.after hq
      subst ev
      exact ⟨rv, V.ref (s.heap.objs.size + 1), H', I3, rfl, q3⟩
    | next => exact False.elim hq
    | brk => exact False.elim hq
    | cont => exact False.elim hq
def tMakeG (C : Addr) (sp : Sp) (t : TA) : TE := fun σ H Q => t σ H fun vs H1 => ∀ x dx, H1 x = none → H1 dx = none → dx ≠ x → sp (.ref x :: vs) (upd (upd H1 dx (.own x)) x (.ins C dx [])) (fun v H2 => v = .non ∧ Q (.ref x) H2) E0
theorem pe_makeG (M : Mk X.K C f) (F : FnG X.prog X.w X.K X.mg X.base CX0 k f fd ps sp) (len : ∀ vs H Q E, sp vs H Q E → vs.length = ps.length) (gd : X.A.guards = some []) (hr : Room (k + 1) X.A) (hb : Binds X.K fd ps []) (hg : Gl X x) (hm : X.mg x = some (.ref C))
    (ha : PA X (e :: es) t) (hdb : (x == ("__debug__" : Str)) = false := by decide) (he : starEach (e :: es) X.env = (false, eval e X.env) :: starEach es X.env := by rfl) (hpl : (backTo pos (starEach es X.env)).any (·.1) = false := by rfl) : PE X (.Call (.Name x p) (e :: es) [] pos) (tMakeG C sp t) := by
  refine ⟨fun pins s σ H Q I h => wpAny_Call_Name_kw (ld_glob I hg hm ?_ hdb)⟩
  exact PySem.W.callWith_K (h₀ := X.base) I.ok.mod.kin M.kp (thn (ha.run pos pins s σ H _ I h) fun us s1 ⟨vs, H1, I1, r, q⟩ => ⟨I1.kIn, run_makeG M F len gd hr hb I1 r q⟩) he hpl
end
end XG
namespace K06
open PySem PySem.Spec PyProof.Rows L2
open DtE (TRow tents lookT valV_tents)
open Tb (key2 PairK Oks Tab TabAt TabOk worths wk rowsO TblAt RowOk usesOf namesOf leT mem_worths worths_nod worths_few worths_pair key2_inj)
open Fk (NameV nameB ents srt srt_perm)
open EvP (Ex)
/-- the same worths -/
structure Alike (r' r : TRow) : Prop where
  look : ∀ k, lookT r' k = lookT r k
  nod : (r'.map (·.1)).Nodup
  row : RowOk r'
  few : r'.length ≤ 144
theorem look_mem {w : TRow} (n : (w.map (·.1)).Nodup) {k : List Key} {v : Int} : lookT w k = some v ↔ (k, v) ∈ w := by
  induction w with
  | nil => exact ⟨fun h => (by cases h), fun h => (by cases h)⟩
  | cons t w ih =>
    rw [List.map_cons, List.nodup_cons] at n
    have ih := ih n.2
    unfold lookT at ih ⊢
    by_cases e : t.1 = k
    · rw [List.find?_cons, decide_eq_true e]
      show some t.2 = some v ↔ _
      constructor
      · intro h
        rw [← e, ← Option.some.inj h]
        exact .head _
      · intro h
        rcases List.mem_cons.mp h with h | h
        · rw [← h]
        · exact absurd (List.mem_map.mpr ⟨_, h, e.symm⟩) n.1
    · rw [List.find?_cons, decide_eq_false e]
      show (w.find? fun t => decide (t.1 = k)).map (·.2) = some v ↔ _
      rw [ih]
      exact ⟨fun h => .tail _ h, fun h => (List.mem_cons.mp h).resolve_left fun h => e (by rw [← h])⟩
theorem look_none {w : TRow} {k : List Key} (h : lookT w k = none) : ∀ v, (k, v) ∉ w := fun v m => by
  unfold lookT at h
  rw [Option.map_eq_none_iff, List.find?_eq_none] at h
  exact h _ m (decide_eq_true rfl)
theorem wk_nn {ss xs : List Str} {r : TRow} (ok : WorthsOk ss xs r) (k : List Key) : 0 ≤ wk r k ∧ wk r k < 10 ^ 30 := by
  unfold wk
  cases h : lookT r k with
  | none => exact ⟨Int.le_refl _, by decide⟩
  | some n =>
    have := ok.pos _ ((look_mem ok.nod).mp h)
    exact ⟨Int.le_of_lt this.1, this.2⟩
theorem tabOk_of {r : TRow} {ss xs L : List Str} {T : Tab} (ok : PlainOk ss xs r) (p : L.Perm ss) (h : TabOf r L xs T) : TabOk T where
  nod := by
    rw [h.names]
    exact p.nodup_iff.mpr ok.s.nod
  nodA := h.nodA
  nm := fun t ht => by
    have : t.1 ∈ L := by
      rw [← h.names]
      exact List.mem_map.mpr ⟨t, ht, rfl⟩
    exact ok.s.nm _ (p.mem_iff.mp this)
  row := fun t ht => by
    have ro := h.row t ht
    refine ⟨ro.nod, fun e he => ⟨ok.u.nm _ (ro.mem e he).1, ?_⟩, ?_⟩
    · rw [(ro.mem e he).2]
      exact (wk_nn ok.w _).1
    · have l := nodup_le (m := xs) ro.nod fun x hx => by
        obtain ⟨e, he, rfl⟩ := List.mem_map.mp hx
        exact (ro.mem e he).1
      rw [List.length_map] at l
      exact Nat.le_trans l (Nat.le_trans ok.u.few (by decide))
  few := by
    have := congrArg List.length h.names
    rw [List.length_map, p.length_eq] at this
    rw [this]
    exact Nat.le_trans ok.s.few (by decide)
theorem worths_alike {r : TRow} {ss xs L : List Str} {T : Tab} (ok : PlainOk ss xs r) (p : L.Perm ss) (h : TabOf r L xs T) : Alike (worths T) r := by
  have to := tabOk_of ok p h
  have wn := worths_nod to
  refine ⟨fun k => ?_, wn, worths_pair to, Nat.le_trans (worths_few to) (by decide)⟩
  cases q : lookT r k with
  | some n =>
    have m := (look_mem ok.w.nod).mp q
    obtain ⟨a, ha, x, hx, e⟩ := ok.w.key _ m
    have np := (ok.w.pos _ m).1
    have ek : k = key2 a x := e
    have aL : a ∈ T.map (·.1) := by
      rw [h.names]
      exact p.mem_iff.mpr ha
    obtain ⟨t, ht, et⟩ := List.mem_map.mp aL
    have ro := h.row t ht
    rw [et] at ro
    have xm := ro.all x hx (by rw [← ek, q]; rfl)
    obtain ⟨c, hc, ec⟩ := List.mem_map.mp xm
    have cv : c.2 = n := by
      rw [(ro.mem c hc).2, ec, ← ek]
      unfold wk
      rw [q]
      rfl
    refine (look_mem wn).mpr ?_
    refine List.mem_flatMap.mpr ⟨t, ht, List.mem_map.mpr ⟨c, List.mem_filter.mpr ⟨hc, decide_eq_true (by rw [cv]; exact np)⟩, ?_⟩⟩
    rw [et, ec, cv, ek]
  | none =>
    cases q2 : lookT (worths T) k with
    | none => rfl
    | some n =>
      exfalso
      obtain ⟨t, ht, c, hc, cp, ee⟩ := mem_worths ((look_mem wn).mp q2)
      have ek : k = key2 t.1 c.1 := (Prod.mk.inj ee).1
      have v := ((h.row t ht).mem c hc).2
      rw [← ek] at v
      unfold wk at v
      rw [q] at v
      have : c.2 = 0 := v
      omega
theorem firsts_in : ∀ (ys acc : List Str), (∀ y ∈ ys, y ∈ acc) → ys.foldl (fun acc n => if n ∈ acc then acc else acc ++ [n]) acc = acc
  | [], _, _ => rfl
  | y :: ys, acc, h => by
    rw [List.foldl_cons, if_pos (h y (.head _))]
    exact firsts_in ys acc fun z hz => h z (.tail _ hz)
theorem firsts_nod : ∀ (ys acc : List Str), (acc ++ ys).Nodup → ys.foldl (fun acc n => if n ∈ acc then acc else acc ++ [n]) acc = acc ++ ys
  | [], acc, _ => by simp
  | y :: ys, acc, h => by
    have no : y ∉ acc := fun m => by
      rw [List.nodup_append] at h
      exact h.2.2 y m y (.head _) rfl
    rw [List.foldl_cons, if_neg no, firsts_nod ys (acc ++ [y]) (by rw [List.append_assoc]; exact h), List.append_assoc]
    rfl
theorem uses_of {r : TRow} {ss xs L : List Str} {T : Tab} (ok : PlainOk ss xs r) (h : TabOf r L xs T) : usesOf xs T = srt xs := by
  unfold usesOf Tb.firsts
  rw [List.foldl_append, firsts_nod xs [] ok.u.nod, List.nil_append, firsts_in _ _ fun y hy => ?_]
  unfold Tb.namesOf at hy
  obtain ⟨t, ht, hy⟩ := List.mem_flatMap.mp hy
  obtain ⟨e, he, rfl⟩ := List.mem_map.mp hy
  exact ((h.row t ht).mem e he).1
abbrev sMade : Stmt := top 45
abbrev ND : List Str := ["pen", "plain", "rows_so", "further"]
theorem scMade : FnScope ND ["pen", "plain"] (defScope sMade) := ⟨rfl, rfl, rfl, by decide +kernel, rfl, by decide +kernel, by decide +kernel⟩
def spMade (C : Addr) : Sp := fun vs H Q _ => ∃ (p q : Addr) (ns : List Int) (s g : Int) (v : V) (ss xs : List Str) (r : TRow), vs = [.ref p, v] ∧ Pen H p q ns s g ∧ ns.length ≤ 63 ∧ 0 ≤ s ∧ s < 99000 ∧ PlainAt H v ss xs r ∧ PlainOk ss xs r ∧
  ∀ (x : Addr) (r' : TRow) (s' g' : Int) (H' : Hp), TblAt C H' x (srt ss) (srt xs) r' → Alike r' r → s ≤ s' → s' ≤ s + 100 → Pen H' p q ns s' g' → But p H H' → Q (.ref x) H'
theorem spMade_len {C : Addr} : ∀ vs H Q E, spMade C vs H Q E → vs.length = (["pen", "plain"] : List Str).length := fun vs H Q E h => by
  obtain ⟨p, q, ns, s, g, v, ss, xs, r, rfl, _⟩ := h
  rfl
section
variable {P : Program} {w : World} {K : PySem.W.Frag} {mg : Str → Option Value} {base : Heap} {C f fR fI : Addr} {fd fdR fdI : FuncData}
theorem ok_made (F : Fun K "_law_made" "_law_made" sMade f fd) (GR : FnOk P w K mg base CX0 2 fR fdR ["pen", "plain"] spRows) (bR : Binds K fdR ["pen", "plain"] []) (gR : mg "_law_rows" = some (.ref fR)) (kR : PySem.W.keepIn K (.ref fR) = true)
    (M : Mk K C fI) (GI : XG.FnG P w K mg base CX0 5 fI fdI ["self", "rows", "uses"] (Tb.spTI K C)) (bI : Binds K fdI ["self", "rows", "uses"] []) (gT : mg "Table" = some (.ref C)) : XG.FnG P w K mg base CX0 7 f fd ["pen", "plain"] (spMade C) := by
  have nd := scMade.nd
  refine XG.Fun.okG F scMade spMade_len fun cdv A outer sh H vs Q E gd hr h => ?_
  obtain ⟨p, q, ns, s, g, v, ss, xs, r, rfl, hP, hl, h0, h1, pa, ok, k⟩ := h
  refine ⟨_, pss_cons (ps_asg (pe_call GR (hr.mono (by decide)) (by rfl) gR kR bR .nil pass0 (pa_cons (pv 0) (pa_cons (pv 1) pa_nil))) (pg_tup rfl (pgs_cons (pg_name (i := 2) nd rfl (Or.inl rfl)) (pgs_cons (pg_name (i := 3) nd rfl (Or.inl rfl)) pgs_nil))))
    (pss_one (ps_ret (XG.pe_makeG M GI Tb.spTI_len gd hr bI (by rfl) gT (pa_cons (pv 2) (pa_cons (pv 3) pa_nil))))), ?_⟩
  have np : ∀ c, v = .ref c → c ≠ p := fun c ec => by
    obtain ⟨t, a, b, d, ev, ht, _⟩ := pa
    rw [ev] at ec
    cases ec
    exact ne_of ht hP.p (fun z => nomatch z)
  refine ⟨_, rfl, _, rfl, p, q, ns, s, g, v, ss, xs, r, rfl, hP, hl, h0, h1, pa, np, ok, fun t d u T L s' g' H' ht hT pL hO hu i1 i2 pn bt => ?_⟩
  refine ⟨t, _, rfl, SqT.of ht, rfl, _, _, rfl, _, _, rfl, rfl, ?_⟩
  refine ⟨_, rfl, _, rfl, fun x dx nx ndx ne => ?_⟩
  have e1 := Ex.new (o := .own x) ndx
  have nx2 : upd H' dx (.own x) x = none := by
    rw [upd_ne ne.symm]
    exact nx
  have e2 := e1.trans (Ex.new (o := .ins C dx []) nx2)
  have hx : upd (upd H' dx (.own x)) x (.ins C dx []) x = some (.ins C dx []) := upd_same
  generalize upd (upd H' dx (.own x)) x (.ins C dx []) = H2 at e2 hx ⊢
  have to := tabOk_of ok pL hO
  have eu := uses_of ok hO
  refine ⟨x, d, u, dx, T, xs, rfl, hx, hT.ex e2, to, (by have := congrArg List.length hO.names; rw [List.length_map, pL.length_eq] at this; rw [this]; exact ok.s.few), .inl (SqL.of (e2 _ _ hu)), ok.u.nm, Nat.le_trans ok.u.few (by decide), by rw [eu, (srt_perm _).length_eq]; exact ok.u.few, fun H3 k3 ta => ⟨rfl, ?_⟩⟩
  rw [eu, hO.names, Fk.srt_eq pL] at ta
  have keep : ∀ c o, H' c = some o → H3 c = some o := fun c o hc => k3 _ _ (e2 _ _ hc) (ne_of_none hc nx)
  exact k x (worths T) s' g' H3 ta (worths_alike ok pL hO) i1 i2 ⟨keep _ _ pn.p, keep _ _ pn.q⟩ fun c o hc n => keep _ _ (bt _ _ hc n)
end
end K06

set_option Elab.async false
set_option linter.all false
set_option maxRecDepth 100000
set_option maxHeartbeats 2000000
/-! The pairs of a table are its sources in order, with the uses in order. -/
namespace Tb
open PySem PySem.Spec PyProof.Rows L2 EvP Cm Fk DtE KyS XG
def ltK (k k' : List Key) : Prop := (textK k).cps.toList < (textK k').cps.toList
def dueK (r : TRow) (ss xs : List Str) : List (List Key) := ss.flatMap fun a => (xs.filter fun x => (lookT r (key2 a x)).isSome).map (key2 a)
theorem srt_lt {l : List Str} (n : l.Nodup) : (srt l).Pairwise fun a b => a.cps.toList < b.cps.toList := by
  have h1 := srt_pairwise l
  have h2 : (srt l).Nodup := (srt_perm l).nodup_iff.mpr n
  refine (List.pairwise_and_iff.mpr ⟨h1, h2⟩).imp fun {a b} h => ?_
  by_cases c : a.cps.toList < b.cps.toList
  · exact c
  · exact absurd (leS_anti h.1 (show leS b a from List.not_lt.mp c)) h.2
theorem due_lt {r : TRow} {ss xs : List Str} (hs : ∀ n ∈ ss, nameB n = true) (hx : ∀ n ∈ xs, nameB n = true) (ns : ss.Nodup) (nx : xs.Nodup) : (dueK r (srt ss) (srt xs)).Pairwise ltK := by
  have ms : ∀ n ∈ srt ss, nameB n = true := fun n h => hs n ((srt_perm ss).mem_iff.mp h)
  have mx : ∀ n ∈ srt xs, nameB n = true := fun n h => hx n ((srt_perm xs).mem_iff.mp h)
  unfold dueK
  rw [List.pairwise_flatMap]
  refine ⟨fun a ha => ?_, ?_⟩
  · rw [List.pairwise_map]
    refine List.Pairwise.imp_of_mem (fun {x y} hx hy h => ?_) ((srt_lt nx).filter _)
    have x1 := mx x (List.mem_filter.mp hx).1
    have y1 := mx y (List.mem_filter.mp hy).1
    show (textK _).cps.toList < (textK _).cps.toList
    rw [text_key (ms a ha) x1, text_key (ms a ha) y1]
    exact tx_lt2 (low_of x1) (low_of y1) h
  · refine List.Pairwise.imp_of_mem (fun {a b} ha hb h => fun k hk k' hk' => ?_) (srt_lt ns)
    obtain ⟨x, hx, rfl⟩ := List.mem_map.mp hk
    obtain ⟨y, hy, rfl⟩ := List.mem_map.mp hk'
    show (textK _).cps.toList < (textK _).cps.toList
    rw [text_key (ms a ha) (mx x (List.mem_filter.mp hx).1), text_key (ms b hb) (mx y (List.mem_filter.mp hy).1)]
    exact tx_lt1 (low_of (ms a ha)) (low_of (ms b hb)) h
theorem lt_tri {l : List (List Key)} (h : l.Pairwise ltK) : ∀ k ∈ l, ∀ k' ∈ l, leK k k' = true → leK k' k = true → k = k' := by
  have no : ∀ {k k' : List Key}, ltK k k' → leK k' k = true → False := fun {k k'} h e => by
    rw [leK_iff, Bool.not_eq_true', decide_eq_false_iff_not] at e
    exact e h
  induction l with
  | nil => intro k hk; cases hk
  | cons z l ih =>
    rw [List.pairwise_cons] at h
    intro k hk k' hk' e1 e2
    rcases List.mem_cons.mp hk with c | ik
    · subst c
      rcases List.mem_cons.mp hk' with c' | ik'
      · exact c'.symm
      · exact (no (h.1 _ ik') e2).elim
    · rcases List.mem_cons.mp hk' with c' | ik'
      · subst c'
        exact (no (h.1 _ ik) e1).elim
      · exact ih h.2 k ik k' ik' e1 e2
theorem sort_due {r r' : TRow} {ss xs : List Str} (hs : ∀ n ∈ ss, nameB n = true) (hx : ∀ n ∈ xs, nameB n = true) (ns : ss.Nodup) (nx : xs.Nodup) (nod : (r'.map (·.1)).Nodup) (look : ∀ k, lookT r' k = lookT r k)
    (key : ∀ t ∈ r', ∃ a ∈ ss, ∃ x ∈ xs, t.1 = key2 a x) : sortK (r'.map (·.1)) = dueK r (srt ss) (srt xs) := by
  have pw := due_lt (r := r) hs hx ns nx
  have p1 : (sortK (r'.map (·.1))).Perm (r'.map (·.1)) := List.mergeSort_perm _ _
  have nd : (dueK r (srt ss) (srt xs)).Nodup := pw.imp fun {a b} h e => by
    subst e
    exact List.lt_irrefl _ h
  have p2 : (r'.map (·.1)).Perm (dueK r (srt ss) (srt xs)) := (List.perm_ext_iff_of_nodup nod nd).mpr fun k => by
    constructor
    · intro hk
      obtain ⟨t, ht, rfl⟩ := List.mem_map.mp hk
      obtain ⟨a, ha, x, hx, e⟩ := key t ht
      have lk := (K06.look_mem nod).mpr (show (t.1, t.2) ∈ r' from ht)
      rw [look, e] at lk
      rw [e]
      exact List.mem_flatMap.mpr ⟨a, (srt_perm ss).mem_iff.mpr ha, List.mem_map.mpr ⟨x, List.mem_filter.mpr ⟨(srt_perm xs).mem_iff.mpr hx, by rw [lk]; rfl⟩, rfl⟩⟩
    · intro hk
      obtain ⟨a, ha, hk⟩ := List.mem_flatMap.mp hk
      obtain ⟨x, hx, rfl⟩ := List.mem_map.mp hk
      obtain ⟨v, hv⟩ := Option.isSome_iff_exists.mp (List.mem_filter.mp hx).2
      rw [← look] at hv
      exact List.mem_map.mpr ⟨_, (K06.look_mem nod).mp hv, rfl⟩
  refine List.Perm.eq_of_pairwise (le := fun k k' => leK k k' = true) (fun k k' hk hk' h1 h2 => lt_tri pw k ((p1.trans p2).mem_iff.mp hk) k' hk' h1 h2) ?_ (pw.imp fun h => leK_of h) (p1.trans p2)
  have tot : PySem.W.TotalLe leK := by
    unfold leK PySem.W.dataLe
    exact PySem.W.sortLe_total _ _ _
  have z := List.pairwise_mergeSort (le := leK) (fun a b c => tot.trans a b c) (fun a b => by
    rw [Bool.or_eq_true]
    exact tot.total a b) (r'.map (·.1))
  exact z
end Tb

set_option Elab.async false
set_option linter.all false
set_option maxRecDepth 100000
set_option maxHeartbeats 4000000
/-! _law_names, _law_at_most. -/
namespace K06
open PySem PySem.Spec PyProof.Rows L2 Cm
open DtE (TRow tents lookT valV_tents)
open Tb (key2 PairK wk leT)
open Fk (NameV nameB srt)
open EvP (Ex All2)
abbrev sNms : Stmt := top 43
theorem scNms : FnScope ["names_so", "name"] ["names_so"] (defScope sNms) := ⟨rfl, rfl, rfl, by decide +kernel, rfl, by decide +kernel, by decide +kernel⟩
def spNms : Sp := fun vs H Q _ => ∃ (a : Addr) (ns : List Str), vs = [.ref a] ∧ H a = some (.lst (ns.map V.str)) ∧ ns.length < 64 ∧ ∀ p H', Ex H H' → H' p = some (.lst ((srt ns).map V.str)) → Q (.ref p) H'
/-- a pair as data -/
def pD (k : List Key) : PyData := .tuple (k.map Tb.toD)
theorem dp_pairs {K : PySem.W.Frag} {H : Hp} : ∀ {ks : List (List Key)} {vs : List V}, (∀ k ∈ ks, PairK k) → All2 H (ks.map fun k => tupV (k.map kV)) vs → DpAll K H vs (ks.map pD)
  | [], _, _, .nil => .nil
  | k :: ks, _, h, .cons ⟨a, ev, ha⟩ t => by
    subst ev
    obtain ⟨b, x, rfl, _, _⟩ := h k (.head _)
    exact .cons (.tup (SqT.of ha) (.cons (.str b) (.cons (.str x) .nil))) (dp_pairs (fun k hk => h k (.tail _ hk)) t)
theorem ok_str {x : Str} (h : NameV (.str x)) : PyData.strOk x = true := by
  obtain ⟨y, ey, _, hb⟩ := h
  cases ey
  unfold nameB at hb
  simp only [Bool.and_eq_true] at hb
  have a := hb.1.1.2
  unfold Txt.isascii at a
  unfold PyData.strOk
  rw [Array.all_eq_true] at a ⊢
  intro i hi
  have := of_decide_eq_true (a i hi)
  exact decide_eq_true (Nat.lt_trans this (by decide))
theorem lay_pairs : ∀ {ks : List (List Key)}, (∀ k ∈ ks, PairK k) → PyData.canLayAll0 (ks.map pD) = true
  | [], _ => rfl
  | k :: ks, h => by
    have ih := lay_pairs fun y hy => h y (.tail _ hy)
    obtain ⟨a, x, rfl, ha, hx⟩ := h k (.head _)
    show (PyData.canLay0 (pD (key2 a x)) && PyData.canLayAll0 (ks.map pD)) = true
    rw [ih, Bool.and_true]
    show (PyData.strOk a && (PyData.strOk x && true)) = true
    rw [ok_str ha, ok_str hx]
    rfl
theorem depth_pairs : ∀ {ks : List (List Key)}, (∀ k ∈ ks, PairK k) → PyData.depthAll (ks.map pD) ≤ 1
  | [], _ => Nat.zero_le _
  | k :: ks, h => by
    have ih := depth_pairs fun y hy => h y (.tail _ hy)
    obtain ⟨a, x, rfl, ha, hx⟩ := h k (.head _)
    show max (PyData.depth (pD (key2 a x))) (PyData.depthAll (ks.map pD)) ≤ 1
    have : PyData.depth (pD (key2 a x)) = 1 := rfl
    omega
theorem shaped_pairs {ks : List (List Key)} (h : ∀ k ∈ ks, PairK k) : SeqAt.shaped (.list (ks.map pD)) = true := by
  have d := depth_pairs h
  show (PyData.canLayAll0 (ks.map pD) && decide (PyData.depthAll (ks.map pD) + 1 ≤ 64)) = true
  rw [lay_pairs h, decide_eq_true (by omega)]
  rfl
theorem eqv_nil6 (ds : List PyData) : PyData.eqv (.list ds) (.list []) = ds.isEmpty := by cases ds <;> rfl
theorem le_filter {r r' : TRow} (n : (r.map (·.1)).Nodup) : ((r.filter fun t => decide (wk r' t.1 < t.2)).map (·.1)).isEmpty = leT r r' := by
  have e : ∀ t ∈ r, wk r t.1 = t.2 := fun t ht => by
    unfold wk
    rw [(look_mem n).mpr (show (t.1, t.2) ∈ r from ht)]
    rfl
  unfold leT
  rw [Bool.eq_iff_iff, List.isEmpty_iff, List.map_eq_nil_iff, List.filter_eq_nil_iff, List.all_eq_true]
  constructor
  · intro h k hk
    obtain ⟨t, ht, rfl⟩ := List.mem_map.mp hk
    have := h t ht
    rw [decide_eq_true_eq] at this
    exact decide_eq_true (by rw [e t ht]; omega)
  · intro h t ht
    have := of_decide_eq_true (h t.1 (List.mem_map.mpr ⟨t, ht, rfl⟩))
    rw [e t ht] at this
    rw [decide_eq_true_eq]
    omega
section
variable {P : Program} {w : World} {K : PySem.W.Frag} {mg : Str → Option Value} {base : Heap} {f : Addr} {fd : FuncData}
theorem ok_nms (F : Fun K "_law_names" "_law_names" sNms f fd) (T : Fk.Blt mg) (T2 : Fk.Blt2 mg) : FnOk P w K mg base CX0 1 f fd ["names_so"] spNms := by
  have nd := scNms.nd
  refine F.ok scNms (fun vs H Q E h => ?_) (fun cdv A outer s H vs Q E hr h => ?_)
  · obtain ⟨a, ns, rfl, _⟩ := h
    rfl
  · obtain ⟨a, ns, rfl, ha, few, q⟩ := h
    refine ⟨_, pss_one (ps_ret (pe_callB cr_sortedS (by rfl) T2.sorted (by decide +kernel) (pa_cons (pe_lc (own := [("name", 1)]) (g := gName 1) (tt := tYes) rfl nd (pi_list (pv 0)) (blkOk_by (N := ["names_so", "name"]) (sc := defScope sNms) (by decide +kernel))
        (fun _ _ _ _ _ => pg_name (i := 1) nd rfl (Or.inl rfl)) (fun _ _ _ _ _ => pts_nil) (fun _ _ _ _ _ => pe_callTy (T := "str") SkE.call_str_str (by rfl) T.str (by decide +kernel) (pa_cons (pv 1) pa_nil))) pa_nil))), ?_⟩
    have z := comp_is (te := tCB (fun xs H Q => ∃ a, xs = [V.str a] ∧ Q (.str a) H) (tCons (tVar 1) tNil)) (tt := tYes) (i := 1) (vs := [1]) (fun _ => true) id (walks_list (K := K) (EvP.varP (σ := [some (.ref a), none]) (i := 0) (P := lstV (ns.map V.str)) rfl ⟨a, rfl, ha⟩)) (by rw [List.length_map]; omega) (fun _ => rfl) (fun _ _ H2 _ Q h => h) (fun v hv _ => by
      obtain ⟨n, hn, rfl⟩ := List.mem_map.mp hv
      exact fun H1 e1 Q1 q1 => ⟨_, rfl, n, rfl, q1 _ _ (Ex.refl _) rfl⟩)
    rw [List.filter_eq_self.mpr (fun _ _ => rfl), List.map_id] at z
    exact g_sorted z few H (Ex.refl H) _ fun v H1 e1 ⟨p, ev, hp⟩ => by
      subst ev
      exact q p H1 e1 hp
end
end K06

set_option Elab.async false
set_option linter.all false
set_option maxRecDepth 100000
set_option maxHeartbeats 2000000
/-! repr of tuples of names and of pairs; a comprehension whose test adds objects. -/
namespace K06
open PySem PySem.Spec PyProof.Rows L2 EvP Cm Fk DtE
open Tb (key2 PairK)
theorem piled_le (b : Nat) : ∀ ts : List Str, (∀ t ∈ ts, t.length ≤ b) → piled ts ≤ ts.length * (b + 2)
  | [], _ => Nat.zero_le _
  | t :: ts, h => by
    have h1 := h t (.head _)
    have h2 := piled_le b ts fun x hx => h x (.tail _ hx)
    rw [piled_cons, List.length_cons, Nat.succ_mul]
    omega
theorem tt_len {b : Nat} {ts : List Str} (h : ∀ t ∈ ts, t.length ≤ b) : (tupleText ts).length ≤ ts.length * (b + 2) + 4 := by
  have p := piled_le b ts h
  have j : (Str.join ", " ts).length ≤ piled ts := by
    cases ts with
    | nil => exact Nat.zero_le _
    | cons t r =>
      have := join_length_add (t :: r) (by simp)
      omega
  have e : (if ts.length == 1 then ",)" else ")" : String).length ≤ 2 := by split <;> decide
  unfold tupleText
  rw [strLen_append, strLen_append, show (("(" : String) : Str).length = 1 from rfl, PySem.ofString_length]
  omega
theorem shown_strs : ∀ ss : List Str, PyData.shownAll (ss.map PyData.str) = ss.map reprText
  | [] => rfl
  | s :: r => by
    show reprText s :: PyData.shownAll (r.map PyData.str) = _
    rw [shown_strs r]
    rfl
theorem shown_pairs : ∀ ks : List (List Key), PyData.shownAll (ks.map pD) = ks.map fun k => (pD k).shown
  | [] => rfl
  | k :: r => by
    show (pD k).shown :: PyData.shownAll (r.map pD) = _
    rw [shown_pairs r]
    rfl
theorem repr_le {x : Str} (h : nameB x = true) : (reprText x).length ≤ 82 := by
  obtain ⟨h1, h2⟩ := Tb.name_small h
  have := StrLaws.reprText_len x h2
  omega
theorem strs_len {ss : List Str} (h : ∀ s ∈ ss, nameB s = true) (few : ss.length ≤ 64) : (PyData.tuple (ss.map PyData.str)).shown.length ≤ 100000 := by
  show (tupleText (PyData.shownAll (ss.map PyData.str))).length ≤ 100000
  rw [shown_strs]
  have := tt_len (b := 82) (ts := ss.map reprText) fun t ht => by
    obtain ⟨x, hx, rfl⟩ := List.mem_map.mp ht
    exact repr_le (h x hx)
  rw [List.length_map] at this
  omega
theorem name_of {x : Str} (h : NameV (.str x)) : nameB x = true := by
  obtain ⟨y, ey, _, hb⟩ := h
  cases ey
  exact hb
theorem pair_len {k : List Key} (h : PairK k) : (pD k).shown.length ≤ 172 := by
  obtain ⟨a, x, rfl, ha, hx⟩ := h
  show (tupleText [reprText a, reprText x]).length ≤ 172
  have := tt_len (b := 82) (ts := [reprText a, reprText x]) fun t ht => by
    rcases List.mem_cons.mp ht with rfl | ht
    · exact repr_le (name_of ha)
    · obtain rfl := List.mem_singleton.mp ht
      exact repr_le (name_of hx)
  exact this
theorem pairs_len {ks : List (List Key)} (h : ∀ k ∈ ks, PairK k) (few : ks.length ≤ 100) : (PyData.tuple (ks.map pD)).shown.length ≤ 100000 := by
  show (tupleText (PyData.shownAll (ks.map pD))).length ≤ 100000
  rw [shown_pairs]
  have := tt_len (b := 172) (ts := ks.map fun k => (pD k).shown) fun t ht => by
    obtain ⟨x, hx, rfl⟩ := List.mem_map.mp ht
    exact pair_len (h x hx)
  rw [List.length_map] at this
  omega
theorem dq_strs {p : Addr} {H : Hp} : ∀ ss : List Str, DqAll p H (ss.map V.str) (ss.map PyData.str)
  | [] => .nil
  | s :: r => .cons (.str s) (dq_strs r)
theorem dq_pairs {p : Addr} {H : Hp} (hp : ∀ xs, H p ≠ some (.tup xs)) : ∀ {ks : List (List Key)} {vs : List V}, (∀ k ∈ ks, PairK k) → All2 H (ks.map fun k => tupV (k.map kV)) vs → DqAll p H vs (ks.map pD)
  | [], _, _, .nil => .nil
  | k :: ks, _, h, .cons ⟨a, ev, ha⟩ t => by
    subst ev
    obtain ⟨b, x, rfl, _, _⟩ := h k (.head _)
    exact .cons (.tup ha (fun e => hp _ (e ▸ ha)) (.cons (.str b) (.cons (.str x) .nil))) (dq_pairs hp (fun k hk => h k (.tail _ hk)) t)
theorem show_strs : ∀ ss : List Str, PyData.showableAll (ss.map PyData.str) = true
  | [] => rfl
  | s :: r => show_strs r
theorem show_pairs : ∀ {ks : List (List Key)}, (∀ k ∈ ks, PairK k) → PyData.showableAll (ks.map pD) = true
  | [], _ => rfl
  | k :: r, h => by
    obtain ⟨a, x, rfl, _, _⟩ := h k (.head _)
    exact show_pairs (ks := r) fun y hy => h y (.tail _ hy)
theorem depth_strs5 : ∀ ss : List Str, PyData.depthAll (ss.map PyData.str) = 0
  | [] => rfl
  | s :: r => by
    show max 0 (PyData.depthAll (r.map PyData.str)) = 0
    rw [depth_strs5 r]
    rfl
section
variable {K : PySem.W.Frag} {σ : L2.St} {H : Hp} {te : TE} {wi : TI} {xs : List V} {vs : List Nat} {i : Nat} {tt : TT}
/-- a comprehension whose test adds objects -/
theorem compT (keep : V → Bool) (φ : V → PR) (hw : Walks wi σ H xs) (hz : xs.length ≤ 1000) (wp : ∀ x, wipe ((wipe σ vs).set i (some x)) vs = wipe σ vs)
    (ht : ∀ x ∈ xs, Tst tt ((wipe σ vs).set i (some x)) H (keep x)) (he : ∀ x ∈ xs, keep x = true → Gives te ((wipe σ vs).set i (some x)) H (φ x)) (st : ∀ x ∈ xs, Stays (φ x)) :
    Gives (tLc wi (gName i) tt te vs) σ H (lst H ((xs.filter keep).map φ)) := fun H1 e1 Q q => by
  refine hw H1 e1 _ fun J H2 e2 ⟨G, w, g⟩ D hD => ?_
  have mem : ∀ (j : Nat) (P : PR), P ∈ ((xs.take j).filter keep).map φ → Stays P := fun j P hP => by
    obtain ⟨x, hx, rfl⟩ := List.mem_map.mp hP
    exact st x (List.mem_of_mem_take (List.mem_filter.mp hx).1)
  have len : ∀ j, (((xs.take j).filter keep).map φ).length ≤ 1000 := fun j => by
    rw [List.length_map]
    exact Nat.le_trans (List.length_filter_le _ _) (by rw [List.length_take]; omega)
  refine lc_it w (fun j H' => ∃ acc, H' D = some (.lst acc) ∧ Ex H2 H' ∧ All2 H' (((xs.take j).filter keep).map φ) acc) ⟨[], upd_same, Ex.new hD, .nil⟩ (fun j H' _ ⟨_, _, e3, _⟩ => g _ e3) (fun j x H' H'' hj ⟨acc, a1, a2, a3⟩ y => ?_) (fun H' ⟨acc, a1, a2, a3⟩ => ?_)
  · obtain ⟨rfl, hx⟩ := y
    have mx := List.mem_of_getElem? hx
    have eH := (e1.trans e2).trans a2
    have tk : xs.take (j + 1) = xs.take j ++ [x] := by
      rw [List.take_add_one, hx]
      rfl
    refine ⟨wp x, ht x mx _ eH _ fun H3 e3 => ?_⟩
    have a1 := e3 _ _ a1
    have a2 := a2.trans e3
    have a3 := a3.ex e3
    have eH := eH.trans e3
    cases kx : keep x with
    | false =>
      refine ⟨acc, a1, a2, ?_⟩
      rw [tk, List.filter_append, List.filter_cons, kx]
      simpa using a3
    | true =>
      refine he x mx kx _ eH _ fun v H4 e4 hv => ⟨acc, e4 _ _ a1, ?_, acc ++ [v], upd_same, fun b o hb => ?_, ?_⟩
      · have := a3.length
        have := len j
        rw [sizeLine_eq]
        omega
      · rw [upd_ne (ne_of_none hb hD)]
        exact e4 _ _ (a2 _ _ hb)
      · rw [tk, List.filter_append, List.filter_cons, kx, List.map_append]
        refine all2_stays (e4 _ _ a1) (fun P hP => ?_) (all2_snoc (a3.ex e4) hv)
        rcases List.mem_append.mp hP with hP | hP
        · exact mem j P hP
        · rw [List.mem_singleton.mp hP]
          exact st x mx
  · rw [List.take_length] at a3
    exact q _ _ (e2.trans a2) ⟨D, acc, rfl, a1, (e1.trans e2).back hD, a3⟩
theorem g_repS {p : Addr} {kvs : List (List Key × V)} {ss : List Str} (hp : H p = some (.dT kvs)) (h : Gives te σ H (tupV (ss.map V.str))) (nm : ∀ s ∈ ss, nameB s = true) (few : ss.length ≤ 64) :
    Gives (tCB rRepr (tCons te tNil)) σ H (is (.str (PyData.tuple (ss.map PyData.str)).shown)) := g_call h fun x H1 e1 ⟨a, ex, ha⟩ Q k => by
  subst ex
  refine ⟨p, _, .tuple (ss.map PyData.str), rfl, .tup ha (fun e => ?_) (dq_strs ss), show_strs ss, ?_, strs_len nm few, k _ _ (Ex.refl _) rfl⟩
  · rw [e, e1 _ _ hp] at ha
    cases ha
  · show PyData.depthAll (ss.map PyData.str) + 1 ≤ 60
    rw [depth_strs5]
    decide
theorem g_repP {p : Addr} {kvs : List (List Key × V)} {ks : List (List Key)} (hp : H p = some (.dT kvs)) (h : Gives te σ H (tup (ks.map fun k => tupV (k.map kV)))) (pk : ∀ k ∈ ks, PairK k) (few : ks.length ≤ 100) :
    Gives (tCB rRepr (tCons te tNil)) σ H (is (.str (PyData.tuple (ks.map pD)).shown)) := g_call h fun x H1 e1 ⟨a, ws, ex, ha, hs⟩ Q k => by
  subst ex
  have hp1 := e1 _ _ hp
  refine ⟨p, _, .tuple (ks.map pD), rfl, .tup ha (fun e => ?_) (dq_pairs (fun xs z => by rw [hp1] at z; cases z) pk hs), show_pairs pk, ?_, pairs_len pk few, k _ _ (Ex.refl _) rfl⟩
  · rw [e, hp1] at ha
    cases ha
  · have := depth_pairs pk
    show PyData.depthAll (ks.map pD) + 1 ≤ 60
    omega
end
end K06

set_option Elab.async false
set_option linter.all false
set_option maxRecDepth 100000
set_option maxHeartbeats 4000000
/-! _law_is: the law's own look at a table. -/
namespace K06
open PySem PySem.Spec PyProof.Rows L2 Cm
open DtE (TRow tents lookT valV_tents)
open Tb (key2 PairK wk TblAt TblC TblI spTItem dueK)
open Fk (NameV nameB srt srt_perm)
open EvP (Ex All2 is tup lst Gives)
abbrev sIs5 : Stmt := top 46
abbrev NI5 : List Str := ["table", "plain", "sources_so", "uses_so", "found", "due", "source", "use", "pair"]
theorem scIs5 : FnScope NI5 ["table", "plain"] (defScope sIs5) := ⟨rfl, rfl, rfl, by decide +kernel, rfl, by decide +kernel, by decide +kernel⟩
def spIs5 (C : Addr) : Sp := fun vs H Q _ => ∃ (x : Addr) (v : V) (ss xs : List Str) (r r' : TRow), vs = [.ref x, v] ∧ TblAt C H x (srt ss) (srt xs) r' ∧ PlainAt H v ss xs r ∧ NamesOk ss ∧ NamesOk xs ∧
  (r.map (·.1)).Nodup ∧ (∀ t ∈ r, ∃ a ∈ ss, ∃ x ∈ xs, t.1 = key2 a x) ∧ (∀ t ∈ r, 0 < t.2 ∧ t.2 < 10 ^ 70) ∧ Alike r' r ∧ ∀ H', Ex H H' → Q (.bl true) H'
theorem spIs5_len {C : Addr} : ∀ vs H Q E, spIs5 C vs H Q E → vs.length = (["table", "plain"] : List Str).length := fun vs H Q E h => by
  obtain ⟨x, v, ss, xs, r, r', rfl, _⟩ := h
  rfl
theorem all2_mem {H : Hp} : ∀ {Ps : List EvP.PR} {vs : List V}, All2 H Ps vs → ∀ v ∈ vs, ∃ P ∈ Ps, P.R v H
  | _, _, .nil, v, h => by cases h
  | _, _, .cons (P := P) a t, v, h => by
    rcases List.mem_cons.mp h with rfl | h
    · exact ⟨_, .head _, a⟩
    · obtain ⟨Q, hq, q⟩ := all2_mem t v h
      exact ⟨Q, .tail _ hq, q⟩
theorem due_take {r : TRow} {ss xs : List Str} {j : Nat} {a : Str} (h : ss[j]? = some a) : dueK r (ss.take (j + 1)) xs = dueK r (ss.take j) xs ++ (xs.filter fun x => (lookT r (key2 a x)).isSome).map (key2 a) := by
  unfold dueK
  rw [List.take_add_one, h, List.flatMap_append]
  simp
section
variable {P : Program} {w : World} {K : PySem.W.Frag} {mg : Str → Option Value} {base : Heap} {C f fN fG : Addr} {fd fdN dG : FuncData}
theorem g_names {σ : L2.St} {H : Hp} {i : Nat} {a : Addr} {ss : List Str} (hi : σ[i]? = some (some (.ref a))) (ha : H a = some (.lst (ss.map V.str))) (few : ss.length < 64) :
    Gives (tCall spNms [] E0 (tCons (tVar i) tNil)) σ H (lstV ((srt ss).map V.str)) := fun H1 e Q q => ⟨_, hi, a, ss, rfl, e _ _ ha, few, fun p H' e' hp => q _ _ e' ⟨p, rfl, hp⟩⟩
theorem ok_is5 (F : Fun K "_law_is" "_law_is" sIs5 f fd) (S : TblC K C) (SI : TblI K C) (T : Fk.Blt mg) (gS : mg "Table" = some (.ref C)) (hT : mg "tuple" = none) (hR : mg "repr" = none)
    (GN : FnOk P w K mg base CX0 1 fN fdN ["names_so"] spNms) (bN : Binds K fdN ["names_so"] []) (gN : mg "_law_names" = some (.ref fN)) (kN : PySem.W.keepIn K (.ref fN) = true)
    (M : Own.Mt P w K mg base C "__getitem__" 3 ["self", "at"] (spTItem C) fG dG) (MF : PySem.W.fnIn K fG = true) : XG.FnG P w K mg base CX0 5 f fd ["table", "plain"] (spIs5 C) := by
  have nd := scIs5.nd
  refine XG.Fun.okG F scIs5 spIs5_len fun cdv A outer sh H vs Q E gd hr h => ?_
  obtain ⟨x, v, ss, xs, r, r', rfl, tb, ⟨t, a, b, d, rfl, ht, ha, hb, hd⟩, sN, uN, nod, key, vb, al, q⟩ := h
  have hu := hu_of hr
  refine ⟨_, pss_cons (ps_asg (pv 1) (pg_tup rfl (pgs_cons (pg_name (i := 2) nd rfl (Or.inl rfl)) (pgs_cons (pg_name (i := 3) nd rfl (Or.inl rfl)) (pgs_cons (pg_name (i := 4) nd rfl (Or.inr rfl)) pgs_nil)))))
    (pss_cons (ps_if (PW.pt (pw_or (pt_not (pt_val (pe_callB call_isi (by rfl) T.isi (by decide +kernel) (pa_cons (pv 0) (pa_cons (pe_glob (v := .ref C) (by rfl) gS rfl) pa_nil)))))
        (pw_or1 (pt_cmpR op_ne (pe_callB (call_reprG gd hr.units) (by rfl) hR (by decide +kernel) (pa_cons (pe_fld (pv 0) rfl) pa_nil)) (pe_callB (call_reprG gd hr.units) (by rfl) hR (by decide +kernel) (pa_cons (pe_tupleOf (by rfl) hT (pe_call GN (hr.mono (by decide)) (by rfl) gN kN bN .nil pass0 (pa_cons (pv 2) pa_nil))) pa_nil)) (nomark _)))))
      (pss_one (ps_ret pe_bl)) pss_nil)
    (pss_cons (ps_if (pt_cmpR op_ne (pe_callB (call_reprG gd hr.units) (by rfl) hR (by decide +kernel) (pa_cons (pe_fld (pv 0) rfl) pa_nil)) (pe_callB (call_reprG gd hr.units) (by rfl) hR (by decide +kernel) (pa_cons (pe_tupleOf (by rfl) hT (pe_call GN (hr.mono (by decide)) (by rfl) gN kN bN .nil pass0 (pa_cons (pv 3) pa_nil))) pa_nil)) (nomark _))
      (pss_one (ps_ret pe_bl)) pss_nil)
    (pss_cons (ps_set (i := 5) nd rfl (Or.inl rfl) (pe_lst pa_nil))
    (pss_cons (ps_for PassesOwn.never rfl (pi_list (pe_call GN (hr.mono (by decide)) (by rfl) gN kN bN .nil pass0 (pa_cons (pv 2) pa_nil))) (pg_name (i := 6) nd rfl (Or.inr rfl))
      (pss_one (ps_set (i := 5) nd rfl (Or.inl rfl) (pe_op op_cat (pv 5) (pe_lc (own := [("use", 7)]) (g := gName 7) (tt := tB (tDIn (tTup (tCons (tVar 6) (tCons (tVar 7) tNil))) (tVar 4))) (te := tTup (tCons (tVar 6) (tCons (tVar 7) tNil))) rfl nd (pi_list (pe_call GN (hr.mono (by decide)) (by rfl) gN kN bN .nil pass0 (pa_cons (pv 3) pa_nil))) (blkOk_by (N := NI5) (sc := defScope sIs5) (by decide +kernel))
        (fun _ _ _ _ _ => pg_name (i := 7) nd rfl (Or.inl rfl)) (fun _ _ _ _ _ => pts_one (pt_cmp (pc_din hu (pe_tup (pa_cons (pv 6) (pa_cons (pv 7) pa_nil))) (pv 4)))) (fun _ _ _ _ _ => pe_tup (pa_cons (pv 6) (pa_cons (pv 7) pa_nil))))))))
    (pss_cons (ps_if (pt_cmpR op_ne (pe_callB (call_reprG gd hr.units) (by rfl) hR (by decide +kernel) (pa_cons (pe_fld (pv 0) rfl) pa_nil)) (pe_callB (call_reprG gd hr.units) (by rfl) hR (by decide +kernel) (pa_cons (pe_tupleOf (by rfl) hT (pv 5)) pa_nil)) (nomark _))
      (pss_one (ps_ret pe_bl)) pss_nil)
    (pss_one (ps_ret (pe_cmpR (op_eqD hr.units) (pe_lc (own := [("pair", 8)]) (g := gName 8) (tt := tTest (tOp rNe (tCB rRepr (tCons (tOp (Own.rIxOwn C (spTItem C)) (tVar 0) (tVar 8)) tNil)) (tCB rRepr (tCons (tDGet (tVar 4) (tVar 8)) tNil)))) (te := tVar 8) rfl nd (pi_list (pv 5)) (blkOk_by (N := NI5) (sc := defScope sIs5) (by decide +kernel))
        (fun _ _ _ _ _ => pg_name (i := 8) nd rfl (Or.inl rfl)) (fun _ _ _ _ _ => pts_one (pt_cmpR op_ne (pe_callB (call_reprG gd hr.units) (by rfl) hR (by decide +kernel) (pa_cons (Own.pe_ixOwn M MF (hr.mono (by decide)) (pv 0) (pv 8)) pa_nil)) (pe_callB (call_reprG gd hr.units) (by rfl) hR (by decide +kernel) (pa_cons (pe_dget hu (pv 4) (pv 8) (fun _ _ => rfl)) pa_nil)) (nomark _))) (fun _ _ _ _ _ => pv 8)) (pe_lst pa_nil) (nomark _))))))))), ?_⟩
  obtain ⟨dx, n1, n2, dw, pp, prs, h1, h2, h3, h4, h5, h6⟩ := tb.ex
  have sB : ∀ n ∈ srt ss, nameB n = true := fun n hn => name_of (sN.nm n ((srt_perm ss).mem_iff.mp hn))
  have uB : ∀ n ∈ srt xs, nameB n = true := fun n hn => name_of (uN.nm n ((srt_perm xs).mem_iff.mp hn))
  have sF : ss.length < 64 := Nat.lt_of_le_of_lt sN.few (by decide)
  have uF : xs.length < 64 := Nat.lt_of_le_of_lt uN.few (by decide)
  have sL : (srt ss).length ≤ 64 := by rw [(srt_perm ss).length_eq]; omega
  have uL : (srt xs).length ≤ 64 := by rw [(srt_perm xs).length_eq]; omega
  have ne : ∀ {X : Str} {x y : V} {H2 : Hp} {Q : VK}, (is (.str X)).R x H2 → (is (.str X)).R y H2 → (∀ v H3, Ex H2 H3 → (is (.bl false)).R v H3 → Q v H3) → rNe x y H2 Q := fun {X x y H2 Q} ex ey k => by
    rw [show x = _ from ex, show y = _ from ey]
    exact ⟨rfl, k _ _ (Ex.refl _) (by show V.bl (!decide _) = V.bl false; simp)⟩
  -- names apart
  refine ⟨_, rfl, t, _, rfl, SqT.of ht, rfl, _, _, rfl, _, _, rfl, _, _, rfl, rfl, ?_⟩
  dsimp only
  refine' Cm.st_ifF ?c1 ?k1
  case c1 =>
    refine t_or (t_not (b := true) (t_val ?_)) (t_test (g_op (g_repS hd (ss := srt ss) ?_ sB sL) (g_repS hd (g_tupV (g_names rfl ha sF)) sB sL) (fun x y H2 e2 ex ey Q k => ne ex ey k)))
    · exact fun H2 e2 Q2 k2 => ⟨_, rfl, _, _, _, _, true, rfl, .own C, .base (.ins (e2 _ _ h1) S.cl SI.ha SI.hn SI.htk SI.hm), (by
        unfold PySem.W.kitOne
        rw [if_pos (by simp)]), k2 _ _ (Ex.refl _) rfl⟩
    · exact fun H2 e2 Q2 k2 => ⟨_, rfl, x, C, dx, _, _, rfl, e2 _ _ h1, S.cl, S.nS, rfl, k2 _ _ (Ex.refl _) ⟨n1, rfl, e2 _ _ h2⟩⟩
  intro H1 e1
  refine' Cm.st_ifF ?c2 ?k2
  case c2 =>
    refine t_test (g_op (g_repS (e1 _ _ hd) (ss := srt xs) ?_ uB uL) (g_repS (e1 _ _ hd) (g_tupV (g_names rfl (e1 _ _ hb) uF)) uB uL) (fun x y H2 e2 ex ey Q k => ne ex ey k))
    exact fun H2 e2 Q2 k2 => ⟨_, rfl, x, C, dx, _, _, rfl, e2 _ _ (e1 _ _ h1), S.cl, S.nU, rfl, k2 _ _ (Ex.refl _) ⟨n2, rfl, e2 _ _ (e1 _ _ h3)⟩⟩
  intro H2 e2
  refine EvP.st_set (EvP.list (H0 := H2) (Ps := []) (Ex.refl H2) EvP.nil (by decide)) fun v H3 e3 hv => ?_
  have E3 : Ex H H3 := (e1.trans e2).trans e3
  refine (g_names rfl (E3 _ _ ha) sF) H3 (Ex.refl H3) _ fun v2 H4 e4 hv2 => ?_
  obtain ⟨p, ev2, hp⟩ := hv2
  have duN : ∀ j, (dueK r ((srt ss).take j) (srt xs)).length ≤ 64 := fun j => by
    unfold dueK
    rw [List.length_flatMap]
    have := Tb.sum_le (fun a : Str => (((srt xs).filter fun x => (lookT r (key2 a x)).isSome).map (key2 a)).length) (n := 6) (l := (srt ss).take j) fun a _ => by
      rw [List.length_map]
      exact Nat.le_trans (List.length_filter_le _ _) (by rw [(srt_perm xs).length_eq]; exact uN.few)
    have l6 : ((srt ss).take j).length ≤ 6 := by
      rw [List.length_take, (srt_perm ss).length_eq]
      have := sN.few
      omega
    have : 6 * ((srt ss).take j).length ≤ 6 * 6 := Nat.mul_le_mul_left _ l6
    omega
  refine ⟨p, ev2, ⟨_, SqL.of hp⟩, for_list (xs := (srt ss).map V.str) (fun j sg H' => ∃ (o6 : Option V) (dv : V), sg = [some (.ref x), some (.ref t), some (.ref a), some (.ref b), some (.ref d), some dv, o6, none, none] ∧ Ex H4 H' ∧ (lst H2 ((dueK r ((srt ss).take j) (srt xs)).map fun k => tupV (k.map kV))).R dv H')
    ⟨none, v, rfl, Ex.refl H4, (lst H2 []).mono _ _ _ e4 hv⟩ (fun j sg H' _ ⟨_, _, _, e, _⟩ => SqL.of (e _ _ hp)) (fun j z sg H' hj ⟨o6, dv, esg, e5, hdv⟩ => ?_) (fun sg H' ⟨o6, dv, esg, e5, hdv⟩ => ?_)⟩
  · subst esg
    rw [List.getElem?_map] at hj
    obtain ⟨c, hc, rfl⟩ := Option.map_eq_some_iff.mp hj
    have eH : Ex H H' := (E3.trans e4).trans e5
    have e2H : Ex H2 H' := (e3.trans e4).trans e5
    have eq : (((srt xs).map V.str).filter fun v => match v with | .str u => (lookT r (key2 c u)).isSome | _ => false).map (fun v => tupV [.str c, v]) = (((srt xs).filter fun u => (lookT r (key2 c u)).isSome).map (key2 c)).map fun k => tupV (k.map kV) := by
      rw [List.filter_map, List.map_map, List.map_map]
      rfl
    refine (EvP.cat (H0 := H2) (Qs := (((srt xs).filter fun u => (lookT r (key2 c u)).isSome).map (key2 c)).map fun k => tupV (k.map kV)) e2H (EvP.varP rfl hdv) (Fk.Gives.imp (compT (i := 7) (fun v => match v with | .str u => (lookT r (key2 c u)).isSome | _ => false) (fun v => tupV [.str c, v]) (walks_list (g_names rfl (eH _ _ hb) uF)) (by rw [List.length_map]; omega) (fun _ => rfl) (fun u hu => ?_) (fun u hu _ => ?_) (fun u _ => stays_tupV _)) fun v H ⟨a, vs, q1, q2, q0, q3⟩ => ⟨a, vs, q1, q2, e2H.back q0, by rw [← eq]; exact q3⟩) ?_) H' (Ex.refl H') _ fun nv H6 e6 hnv => ⟨_, nv, rfl, e5.trans e6, by
      rw [due_take hc, List.map_append]
      exact hnv⟩
    · obtain ⟨u, hu, rfl⟩ := List.mem_map.mp hu
      refine t_val (fun H7 e7 Q7 k7 => ⟨_, rfl, _, rfl, by show 2 ≤ sizeLine; decide, fun tp np => ⟨_, rfl, d, _, rfl, .inr ⟨tents r, key2 c u, tp, .inl (Ex.new np _ _ (e7 _ _ (eH _ _ hd))), rfl, upd_same, rfl⟩, k7 _ _ (Ex.new np) ?_⟩⟩)
      show V.bl _ = V.bl _
      rw [valV_tents, Option.isSome_map]
    · exact Fk.Gives.imp (EvP.tuple (EvP.cons (EvP.var rfl) (EvP.cons (EvP.var rfl) EvP.nil)) (by show 2 ≤ 1000; decide)) fun _ _ h => Fk.tup_is (xs := [.str c, u]) h
    · have l1 := duN j
      have l2 : (((srt xs).filter fun u => (lookT r (key2 c u)).isSome).map (key2 c)).length ≤ 64 := by
        rw [List.length_map]
        exact Nat.le_trans (List.length_filter_le _ _) uL
      rw [List.length_map, List.length_map]
      omega
  · subst esg
    rw [List.length_map, List.take_length] at hdv
    have eH : Ex H H' := (E3.trans e4).trans e5
    have key' : ∀ t ∈ r', ∃ a ∈ ss, ∃ x ∈ xs, t.1 = key2 a x := fun t ht => by
      have := (look_mem al.nod).mpr (show (t.1, t.2) ∈ r' from ht)
      rw [al.look] at this
      exact key _ ((look_mem nod).mp this)
    have due : Tb.sortK (r'.map (·.1)) = dueK r (srt ss) (srt xs) := Tb.sort_due (fun n hn => name_of (sN.nm n hn)) (fun n hn => name_of (uN.nm n hn)) sN.nod uN.nod al.nod al.look key'
    have inr : ∀ k ∈ dueK r (srt ss) (srt xs), ∃ n, lookT r k = some n := fun k hk => by
      obtain ⟨a, _, hk⟩ := List.mem_flatMap.mp hk
      obtain ⟨u, hu, rfl⟩ := List.mem_map.mp hk
      exact Option.isSome_iff_exists.mp (List.mem_filter.mp hu).2
    have pk : ∀ k ∈ dueK r (srt ss) (srt xs), PairK k := fun k hk => by
      obtain ⟨n, hn⟩ := inr k hk
      obtain ⟨a, ha, u, hu, e⟩ := key _ ((look_mem nod).mp hn)
      exact ⟨a, u, e, sN.nm a ha, uN.nm u hu⟩
    rw [due] at h6
    have duL := duN (srt ss).length
    rw [List.take_length] at duL
    dsimp only
    refine' Cm.st_ifF ?c3 ?k3
    case c3 =>
      refine t_test (g_op (g_repP (eH _ _ hd) (ks := dueK r (srt ss) (srt xs)) ?_ pk (by omega)) (g_repP (eH _ _ hd) (Cm.g_tup (EvP.varP rfl hdv)) pk (by omega)) (fun x y H2 e2 ex ey Q k => ne ex ey k))
      exact fun H2 e2 Q2 k2 => ⟨_, rfl, x, C, dx, _, _, rfl, e2 _ _ (eH _ _ h1), S.cl, S.nP, rfl, k2 _ _ (Ex.refl _) ⟨pp, prs, rfl, e2 _ _ (eH _ _ h5), (h6.ex eH).ex e2⟩⟩
    intro H7 e7
    obtain ⟨ad, acc, rfl, had, _, hs⟩ := hdv
    have al2 := hs.length
    rw [List.length_map] at al2
    have E7 : Ex H H7 := eH.trans e7
    refine EvP.st_ret (P := is (.bl true)) (g_op (P := lst H7 []) (R := lstV []) (Fk.Gives.imp (compT (i := 8) (xs := acc) (fun _ => false) (fun v => is v) (walks_list (EvP.varP rfl ⟨ad, rfl, e7 _ _ had⟩)) (by omega) (fun _ => rfl) (fun y hy => ?_) (fun _ _ h => by cases h) (fun y _ => stays_is y)) fun v H h => ?_) (fun H2 e2 Q k => ⟨by show 0 ≤ sizeLine; decide, fun p hp => k _ _ (Ex.new hp) ⟨p, rfl, upd_same⟩⟩) (fun x y H2 e2 hx hy Q k => ?_)) fun v H8 e8 ev => ?_
    · obtain ⟨P, hP, hR⟩ := all2_mem hs y hy
      obtain ⟨k, hk, rfl⟩ := List.mem_map.mp hP
      obtain ⟨pq, rfl, hq⟩ := hR
      obtain ⟨n, hn⟩ := inr k hk
      have b := vb _ ((look_mem nod).mp hn)
      have lg : n.natAbs.log2 < 1920 := Nat.lt_of_lt_of_le (PySem.Flt.log2_lt_of (k := 240) (by decide) (by
        have : (10 : Int) ^ 70 < 2 ^ 240 := by decide
        have h1 : 0 < n := b.1
        have h2 : n < 10 ^ 70 := b.2
        omega)) (by decide)
      have rp : ∀ {te : TE} {σ : L2.St} {H : Hp}, Gives te σ H (is (.int n)) → Gives (tCB rRepr (tCons te tNil)) σ H (is (.str (PyData.int n).shown)) := fun {te σ H} h => g_call h fun v H1 e1 ev Q k => by
        rw [show v = _ from ev]
        refine ⟨d, .int n, .int n, rfl, .int n, decide_eq_true lg, by show (0 : Nat) ≤ 60; decide, ?_, k _ _ (Ex.refl _) rfl⟩
        have := int_text_len_1921 lg
        show (Str.ofString (toString n)).length ≤ 100000
        omega
      have wn : wk r' k = n := by
        unfold wk
        rw [al.look, hn]
        rfl
      refine t_test (g_op (rp (fun H9 e9 Q q => ⟨_, rfl, _, rfl, Tb.tbl_ins (tb.mono (E7.trans e9)), x, pq, srt ss, srt xs, r', k, rfl, tb.mono (E7.trans e9), e9 _ _ (e7 _ _ hq), pk k hk, q _ _ (Ex.refl _) (by
        show V.int _ = V.int _
        rw [wn])⟩)) (rp (fun H9 e9 Q q => ⟨_, rfl, _, rfl, d, .int n, rfl, .inr ⟨tents r, k, pq, .inl ((E7.trans e9) _ _ hd), rfl, e9 _ _ (e7 _ _ hq), (by
        rw [valV_tents, hn]
        rfl)⟩, q _ _ (Ex.refl _) rfl⟩)) (fun x y H2 e2 ex ey Q k => ne ex ey k))
    · rw [List.filter_eq_nil_iff.mpr (fun _ _ h => by cases h)] at h
      exact h
    · obtain ⟨p1, w1, rfl, g1, _, g3⟩ := hx
      obtain ⟨p2, rfl, g2⟩ := hy
      cases g3
      exact ⟨.list [], .list [], .lst (SqL.of g1) .nil, .lst (SqL.of g2) .nil, rfl, rfl, k _ _ (Ex.refl _) rfl⟩
    · rw [show v = V.bl true from ev]
      exact q _ (E7.trans e8)
end
end K06

set_option Elab.async false
set_option linter.all false
set_option maxRecDepth 100000
set_option maxHeartbeats 4000000
/-! {a: {x: e for x in xs} for a in ss}: a new dict of new rows. -/
namespace K06
open PySem PySem.Spec PyProof.Rows L2 Cm
open DtE (TRow tents lookT valV_tents)
open Tb (key2 PairK wk TblAt TblC Tab TabAt rowsO)
open Fk (NameV nameB srt srt_perm ents)
open EvP (Ex All2 is Gives)
/-- a new dict of new rows -/
structure TabNew (H0 : Hp) (B : List (Str × Fk.Row)) (v : V) (H : Hp) : Prop where
  ex : ∃ (d : Addr) (T : Tab), v = .ref d ∧ TabAt H d T ∧ T.map (fun t : Str × Addr × Fk.Row => (t.1, t.2.2)) = B ∧ (T.map (fun t : Str × Addr × Fk.Row => t.2.1)).Nodup ∧ H0 d = none
def tabN (H0 : Hp) (B : List (Str × Fk.Row)) : EvP.PR := ⟨TabNew H0 B, fun _ _ _ e h => by
  obtain ⟨d, T, h1, h2, h3, h4, h5⟩ := h.ex
  exact ⟨d, T, h1, ⟨e _ _ h2.at_, fun t ht => e _ _ (h2.row t ht)⟩, h3, h4, h5⟩⟩
section
variable {K : PySem.W.Frag} {σ : L2.St} {H : Hp} {tl tv : TE} {vs : List Nat} {i : Nat}
theorem comp_tab {ss : List Str} (f : Str → Fk.Row) (h : Gives tl σ H (tupV (ss.map V.str))) (hz : ss.length ≤ 1000) (nod : ss.Nodup) (hi : i < σ.length) (wp : ∀ x, wipe ((wipe σ vs).set i (some x)) vs = wipe σ vs)
    (he : ∀ n ∈ ss, ∀ H1, Ex H H1 → Gives tv ((wipe σ vs).set i (some (.str n))) H1 (dictN H1 (ents (f n)))) : Gives (tDc (iTup K tl) (gName i) tYes (tVar i) tv vs) σ H (tabN H (ss.map fun n => (n, f n))) := fun H1 e1 Q q => by
  refine h H1 e1 _ fun v H2 e2 ⟨a, ev, ha⟩ => ⟨a, ev, ⟨_, SqT.of ha⟩, fun D hD => ?_⟩
  refine dc_tup (xs := ss.map V.str) (fun j H' => ∃ T : Tab, H' D = some (.dK (T.map fun t => (Sum.inr t.1, V.ref t.2.1))) ∧ T.map (fun t => (t.1, t.2.2)) = (ss.take j).map (fun n => (n, f n)) ∧ (T.map (·.2.1)).Nodup ∧ (∀ t ∈ T, H' t.2.1 = some (.dK (ents t.2.2)) ∧ t.2.1 ≠ D) ∧ Ex H2 H') ⟨[], upd_same, by rw [List.take_zero]; rfl, List.nodup_nil, (fun t ht => nomatch ht), Ex.new hD⟩ (fun j H' _ ⟨_, _, _, _, _, e3⟩ => SqT.of (e3 _ _ ha)) (fun j x H' hx ⟨T, a1, a2, a3, a4, a5⟩ => ?_) (fun H' ⟨T, a1, a2, a3, a4, a5⟩ => ?_)
  · rw [List.getElem?_map] at hx
    obtain ⟨n, hn, rfl⟩ := Option.map_eq_some_iff.mp hx
    have eH := (e1.trans e2).trans a5
    have lw : (wipe σ vs).length = σ.length := wipe_length σ vs
    have lT : T.length = (ss.take j).length := by
      have := congrArg List.length a2
      rwa [List.length_map, List.length_map] at this
    refine ⟨wp _, .str n, by rw [List.getElem?_set_self (by rw [lw]; exact hi)], he n (List.mem_of_getElem? hn) _ eH _ (Ex.refl _) _ fun v H4 e4 hv => ?_⟩
    obtain ⟨ra, rfl, hra, fra⟩ := hv
    have nD : ra ≠ D := fun z => by
      rw [z, a1] at fra
      cases fra
    refine ⟨_, Sum.inr n, rfl, e4 _ _ a1, ?_, T ++ [(n, ra, f n)], ?_, ?_, ?_, fun t ht => ?_, fun b o hb => ?_⟩
    · rw [List.length_map, lT, List.length_take, sizeLine_eq]
      omega
    · have new : valV (T.map fun t => ((Sum.inr t.1 : Key), V.ref t.2.1)) (Sum.inr n) = none := by
        have no : ¬ ((T.map fun t => ((Sum.inr t.1 : Key), V.ref t.2.1)).any fun kv => decide (kv.1 = Sum.inr n)) = true := by
          intro y
          obtain ⟨p, hp, ep⟩ := List.any_eq_true.mp y
          obtain ⟨m, hm, rfl⟩ := List.mem_map.mp hp
          have e : m.1 = n := Sum.inr.inj (of_decide_eq_true ep)
          have mm : (m.1, m.2.2) ∈ (ss.take j).map fun n => (n, f n) := by
            rw [← a2]
            exact List.mem_map.mpr ⟨m, hm, rfl⟩
          obtain ⟨z, hz2, ez⟩ := List.mem_map.mp mm
          have ez1 : z = n := (Prod.mk.inj ez).1.trans e
          rw [ez1] at hz2
          exact take_no nod hn hz2
        rw [valV_any] at no
        simpa using no
      rw [upd_same, putK_new _ new, List.map_append]
      rfl
    · rw [List.map_append, a2, List.take_add_one, hn, List.map_append]
      rfl
    · rw [List.map_append, List.nodup_append]
      refine ⟨a3, List.nodup_cons.mpr ⟨List.not_mem_nil, List.nodup_nil⟩, fun k hk k' hk' e => ?_⟩
      obtain ⟨t, ht, rfl⟩ := List.mem_map.mp hk
      obtain rfl := List.mem_singleton.mp hk'
      have := (a4 t ht).1
      rw [e, fra] at this
      cases this
    · rcases List.mem_append.mp ht with ht | ht
      · exact ⟨by rw [upd_ne (a4 t ht).2]; exact e4 _ _ (a4 t ht).1, (a4 t ht).2⟩
      · obtain rfl := List.mem_singleton.mp ht
        exact ⟨by rw [upd_ne nD]; exact hra, nD⟩
    · rw [upd_ne (ne_of_none hb hD)]
      exact e4 _ _ (a5 _ _ hb)
  · rw [List.length_map, List.take_length] at a2
    exact q _ _ (e2.trans a5) ⟨D, T, rfl, ⟨a1, fun t ht => (a4 t ht).1⟩, a2, a3, (e1.trans e2).back hD⟩
end
end K06

set_option Elab.async false
set_option linter.all false
set_option maxRecDepth 100000
set_option maxHeartbeats 2000000
/-! Worths by a rule of the pairs. -/
namespace K06
open PySem PySem.Spec PyProof.Rows L2
open DtE (TRow tents lookT sameT)
open Tb (key2 PairK wk wrow RowOk)
open Fk (NameV nameB srt srt_perm)
/-- worths above 0 of pairs of these names -/
structure GoodR (ss xs : List Str) (r : TRow) : Prop where
  nod : (r.map (·.1)).Nodup
  key : ∀ t ∈ r, ∃ a ∈ ss, ∃ x ∈ xs, t.1 = key2 a x
  pos : ∀ t ∈ r, 0 < t.2
theorem GoodR.look {ss xs : List Str} {r : TRow} (g : GoodR ss xs r) (k : List Key) : lookT r k = if 0 < wk r k then some (wk r k) else none := by
  unfold wk
  cases h : lookT r k with
  | none => rfl
  | some n =>
    have p := g.pos _ ((look_mem g.nod).mp h)
    show some n = if 0 < n then some n else none
    rw [if_pos p]
theorem GoodR.nn {ss xs : List Str} {r : TRow} (g : GoodR ss xs r) (k : List Key) : 0 ≤ wk r k := by
  unfold wk
  cases h : lookT r k with
  | none => exact Int.le_refl _
  | some n => exact Int.le_of_lt (g.pos _ ((look_mem g.nod).mp h))
theorem GoodR.out {ss xs : List Str} {r : TRow} (g : GoodR ss xs r) {k : List Key} (h : ¬ ∃ a ∈ ss, ∃ x ∈ xs, k = key2 a x) : wk r k = 0 := by
  unfold wk
  cases c : lookT r k with
  | none => rfl
  | some n => exact absurd (g.key _ ((look_mem g.nod).mp c)) h
theorem look_ext {ss xs ss' xs' : List Str} {r r' : TRow} (g : GoodR ss xs r) (g' : GoodR ss' xs' r') (h : ∀ k, wk r k = wk r' k) (k : List Key) : lookT r k = lookT r' k := by
  rw [g.look, g'.look, h]
theorem same_of {ss xs ss' xs' : List Str} {r r' : TRow} (g : GoodR ss xs r) (g' : GoodR ss' xs' r') (h : ∀ k, wk r k = wk r' k) : sameT r r' = true := by
  have e := look_ext g g' h
  have p : (r.map (·.1)).Perm (r'.map (·.1)) := (List.perm_ext_iff_of_nodup g.nod g'.nod).mpr fun k => by
    constructor
    · intro hk
      obtain ⟨t, ht, rfl⟩ := List.mem_map.mp hk
      have := (look_mem g.nod).mpr (show (t.1, t.2) ∈ r from ht)
      rw [e] at this
      exact List.mem_map.mpr ⟨_, (look_mem g'.nod).mp this, rfl⟩
    · intro hk
      obtain ⟨t, ht, rfl⟩ := List.mem_map.mp hk
      have := (look_mem g'.nod).mpr (show (t.1, t.2) ∈ r' from ht)
      rw [← e] at this
      exact List.mem_map.mpr ⟨_, (look_mem g.nod).mp this, rfl⟩
  have l := p.length_eq
  rw [List.length_map, List.length_map] at l
  unfold sameT
  rw [l, beq_self_eq_true, Bool.true_and, List.all_eq_true]
  intro t ht
  have := (look_mem g.nod).mpr (show (t.1, t.2) ∈ r from ht)
  rw [e] at this
  exact decide_eq_true this
/-- the worths above 0 by a rule, in order -/
def genR (g : List Key → Int) (ss xs : List Str) : TRow := ss.flatMap fun a => wrow a (xs.map fun x => (x, g (key2 a x)))
theorem mem_gen {g : List Key → Int} {ss xs : List Str} {t : List Key × Int} : t ∈ genR g ss xs ↔ ∃ a ∈ ss, ∃ x ∈ xs, 0 < g (key2 a x) ∧ t = (key2 a x, g (key2 a x)) := by
  unfold genR wrow
  constructor
  · intro h
    obtain ⟨a, ha, h⟩ := List.mem_flatMap.mp h
    obtain ⟨e, he, rfl⟩ := List.mem_map.mp h
    obtain ⟨h1, h2⟩ := List.mem_filter.mp he
    obtain ⟨x, hx, rfl⟩ := List.mem_map.mp h1
    exact ⟨a, ha, x, hx, of_decide_eq_true h2, rfl⟩
  · rintro ⟨a, ha, x, hx, p, rfl⟩
    exact List.mem_flatMap.mpr ⟨a, ha, List.mem_map.mpr ⟨(x, g (key2 a x)), List.mem_filter.mpr ⟨List.mem_map.mpr ⟨x, hx, rfl⟩, decide_eq_true p⟩, rfl⟩⟩
theorem nod_gen {g : List Key → Int} {ss xs : List Str} (ns : ss.Nodup) (nx : xs.Nodup) : ((genR g ss xs).map (·.1)).Nodup := by
  unfold genR
  rw [List.map_flatMap, List.nodup_iff_pairwise_ne, List.pairwise_flatMap]
  refine ⟨fun a _ => ?_, ?_⟩
  · have := Tb.wrow_nod a (r := xs.map fun x => (x, g (key2 a x))) (by rw [List.map_map]; exact (List.map_id xs).symm ▸ nx)
    exact List.nodup_iff_pairwise_ne.mp this
  · refine (List.nodup_iff_pairwise_ne.mp ns).imp fun {a b} ne k hk k' hk' e => ?_
    obtain ⟨t, ht, rfl⟩ := List.mem_map.mp hk
    obtain ⟨t', ht', rfl⟩ := List.mem_map.mp hk'
    unfold wrow at ht ht'
    obtain ⟨c, _, rfl⟩ := List.mem_map.mp ht
    obtain ⟨c', _, rfl⟩ := List.mem_map.mp ht'
    exact ne (Tb.key2_inj e).1
theorem good_gen {g : List Key → Int} {ss xs : List Str} (ns : ss.Nodup) (nx : xs.Nodup) : GoodR ss xs (genR g ss xs) := ⟨nod_gen ns nx, fun t ht => by
  obtain ⟨a, ha, x, hx, _, rfl⟩ := mem_gen.mp ht
  exact ⟨a, ha, x, hx, rfl⟩, fun t ht => by
  obtain ⟨a, ha, x, hx, p, rfl⟩ := mem_gen.mp ht
  exact p⟩
theorem wk_gen {g : List Key → Int} {ss xs : List Str} (ns : ss.Nodup) (nx : xs.Nodup) (out : ∀ k, (¬ ∃ a ∈ ss, ∃ x ∈ xs, k = key2 a x) → g k = 0) (nn : ∀ k, 0 ≤ g k) (k : List Key) : wk (genR g ss xs) k = g k := by
  have no := nod_gen (g := g) ns nx
  by_cases c : ∃ a ∈ ss, ∃ x ∈ xs, k = key2 a x
  · obtain ⟨a, ha, x, hx, rfl⟩ := c
    by_cases p : 0 < g (key2 a x)
    · have := (look_mem no).mpr (mem_gen.mpr ⟨a, ha, x, hx, p, rfl⟩)
      unfold wk
      rw [this]
      rfl
    · have z : g (key2 a x) = 0 := by
        have := nn (key2 a x)
        omega
      unfold wk
      cases h : lookT (genR g ss xs) (key2 a x) with
      | none => exact z.symm
      | some n =>
        obtain ⟨b, _, y, _, q, e⟩ := mem_gen.mp ((look_mem no).mp h)
        have e1 := (Prod.mk.inj e).1
        rw [← e1] at q
        exact absurd q p
  · rw [(good_gen ns nx).out c, out k c]
theorem GoodR.perm {ss xs ss' xs' : List Str} {r : TRow} (g : GoodR ss xs r) (p : ss.Perm ss') (q : xs.Perm xs') : GoodR ss' xs' r := ⟨g.nod, fun t ht => by
  obtain ⟨a, ha, x, hx, e⟩ := g.key t ht
  exact ⟨a, p.mem_iff.mp ha, x, q.mem_iff.mp hx, e⟩, g.pos⟩
theorem GoodR.rowOk {ss xs : List Str} {r : TRow} (g : GoodR ss xs r) (ns : ∀ n ∈ ss, NameV (.str n)) (nx : ∀ n ∈ xs, NameV (.str n)) : RowOk r := fun t ht => by
  obtain ⟨a, ha, x, hx, e⟩ := g.key t ht
  exact ⟨a, x, e, ns a ha, nx x hx⟩
theorem GoodR.len {ss xs : List Str} {r : TRow} (g : GoodR ss xs r) : r.length ≤ ss.length * xs.length := by
  have s : ∀ k ∈ r.map (·.1), k ∈ ss.flatMap fun a => xs.map (key2 a) := fun k hk => by
    obtain ⟨t, ht, rfl⟩ := List.mem_map.mp hk
    obtain ⟨a, ha, x, hx, e⟩ := g.key t ht
    exact List.mem_flatMap.mpr ⟨a, ha, List.mem_map.mpr ⟨x, hx, e.symm⟩⟩
  have l := nodup_le g.nod s
  rw [List.length_map] at l
  have e : ∀ (l : List Str), (l.flatMap fun a => xs.map (key2 a)).length = l.length * xs.length := fun l => by
    induction l with
    | nil => simp
    | cons a l ih => rw [List.flatMap_cons, List.length_append, ih, List.length_map, List.length_cons, Nat.add_mul, Nat.one_mul, Nat.add_comm]
  rw [e] at l
  exact l
theorem GoodR.len36 {ss xs : List Str} {r : TRow} (g : GoodR ss xs r) (hs : ss.length ≤ 6) (hx : xs.length ≤ 6) : r.length ≤ 36 :=
  Nat.le_trans g.len (Nat.mul_le_mul hs hx)
end K06

set_option Elab.async false
set_option linter.all false
set_option maxRecDepth 100000
set_option maxHeartbeats 4000000
/-! Defs that may raise and are called while nothing is being shown; Table.__init__ with its last two errors. -/
namespace XG
open PySem PySem.Spec PyProof.Rows L2
section
variable {P : Program} {w : World} {K : PySem.W.Frag} {mg : Str → Option Value} {base : Heap} {x qual : Str} {f : Addr} {fd : FuncData} {N ps : List Str} {k : Nat} {sp : Sp}
theorem Fun.okGX {st : Stmt} (F : Fun K x qual st f fd) (S : FnScope N ps (defScope st)) (len : ∀ vs H Q E, sp vs H Q E → vs.length = ps.length)
    (walk : ∀ (cdv : Value) (A : Around) (outer : List Env) (s : Shared) (H : Hp) (vs : List V) (Q : VK) (E : XK), A.guards = some [] → Room k (A.deeper (envOfC qual (defScope st) s.heap.objs.size f cdv)) → sp vs H Q E →
      ∃ t, PSs (cxOf (L2.CX P w) P w K mg base N qual (defScope st) f cdv A outer s H E) (defBody st) t ∧ t { nx := fun _ H' => Q .non H', rt := Q } (start N vs) H) : FnG P w K mg base (L2.CX P w) (k + 1) f fd ps sp := by
  obtain ⟨oc, od, kV, doc, pm, an, cdv, ct, osl, rfl, lk, hcd⟩ := F.ex
  exact fnG_of lk hcd S len fun A outer s H vs Q E gd room h => walk cdv A outer s H vs Q E gd room h
theorem FunD.okGX {params : Arguments} {body : List Stmt} {scope : Scope} {dvs : List V} {kws : List (Str × V)} (F : FunD K x qual params body scope dvs kws f fd) (S : FnScope N ps scope) (len : ∀ vs H Q E, sp vs H Q E → vs.length = ps.length)
    (walk : ∀ (cdv : Value) (A : Around) (outer : List Env) (s : Shared) (H : Hp) (vs : List V) (Q : VK) (E : XK), A.guards = some [] → Room k (A.deeper (envOfC qual scope s.heap.objs.size f cdv)) → sp vs H Q E →
      ∃ t, PSs (cxOf (L2.CX P w) P w K mg base N qual scope f cdv A outer s H E) body t ∧ t { nx := fun _ H' => Q .non H', rt := Q } (start N vs) H) : FnG P w K mg base (L2.CX P w) (k + 1) f fd ps sp := by
  obtain ⟨oc, od, dV, kV, doc, pm, an, cdv, ct, osl, rfl, lk, hcd, _, _⟩ := F.ex
  exact fnG_of lk hcd S len fun A outer s H vs Q E gd room h => walk cdv A outer s H vs Q E gd room h
/-- what raises nothing where it is asked so -/
theorem FnG.calm {sp' : Sp} (F : FnG P w K mg base (L2.CX P w) k f fd ps sp) (h : ∀ vs H Q E, sp' vs H Q E → sp vs H Q E0) : FnG P w K mg base CX0 k f fd ps sp' := fun A outer s H args us vs Q E gd room e0 bd r q => by
  refine codeAny_mono (F A outer s H args us vs Q E0 gd room e0 bd r (h _ _ _ _ q)) fun r s' z => ?_
  cases r with
  | ok fl => cases fl <;> exact z
  | error e =>
    obtain ⟨_, _, _, _, _, _, _, _, _, _, _, _, z⟩ := z
    exact z.elim
end
section
variable {X : Cx} {x : Str} {f C : Addr} {fd : FuncData} {k : Nat} {ps : List Str} {sp : Sp} {e : Expr} {es : List Expr} {t : TA} {p pos : Pos} {E : XK}
/-- the call of a def that may raise: what it lets out is E's business -/
theorem pe_callGX (F : FnG X.prog X.w X.K X.mg X.base (L2.CX X.prog X.w) k f fd ps sp) (len : ∀ vs H Q E, sp vs H Q E → vs.length = ps.length) (gd : X.A.guards = some []) (hr : Room k X.A) (hg : Gl X x) (hm : X.mg x = some (.ref f)) (hk : PySem.W.keepIn X.K (.ref f) = true) (hb : Binds X.K fd ps [])
    (hx : ∀ σ, PassesAt (L2.CX X.prog X.w) X σ E) (ha : PA X (e :: es) t) (hdb : (x == ("__debug__" : Str)) = false := by decide) (he : starEach (e :: es) X.env = (false, eval e X.env) :: starEach es X.env := by rfl) (hpl : (backTo pos (starEach es X.env)).any (·.1) = false := by rfl) :
    PE X (.Call (.Name x p) (e :: es) [] pos) (tCall sp [] E t) := by
  refine ⟨fun pins s σ H Q I h => wpAny_Call_Name_kw (ld_glob I hg hm (PySem.W.callWith_K (h₀ := X.base) I.ok.mod.kin hk (thn (ha.run pos pins s σ H _ I h) fun us s1 ⟨vs, H1, I1, r, q⟩ => ⟨I1.kIn, ?_⟩) he hpl) hdb)⟩
  replace q : sp vs H1 Q E := by
    have z : sp (vs ++ []) H1 Q E := q
    rw [List.append_nil] at z
    exact z
  have n : (us ++ []).length = ps.length := by rw [List.append_nil, ← r.length]; exact len _ _ _ _ q
  refine wpAny_call (codeAny_mono (F X.A X.stack s1 H1 ⟨us, []⟩ (us ++ []) vs Q E gd hr I1.env0 (hb s1 us I1.kIn n) (by rw [List.append_nil]; exact r) q) fun r' s' z => ?_)
  cases r' with
  | error e => exact hx σ pins H1 s1 e s' I1 z
  | ok fl => cases fl with
    | ret u => exact I1.after z
    | _ => exact (show False from z).elim
theorem run_makeGX {pins : List (Addr × Obj)} {σ : L2.St} {H : Hp} {s : Shared} {Q : VK} {us : List Value} {vs : List V} (M : Mk X.K C f) (F : FnG X.prog X.w X.K X.mg X.base (L2.CX X.prog X.w) k f fd ps sp) (len : ∀ vs H Q E, sp vs H Q E → vs.length = ps.length) (gd : X.A.guards = some []) (hr : Room (k + 1) X.A) (hb : Binds X.K fd ps [])
    (hx : ∀ σ, PassesAt (L2.CX X.prog X.w) X σ E) (I : Inv X pins σ H s) (r : Vals vs us) (h : ∀ x dx, H x = none → H dx = none → dx ≠ x → sp (.ref x :: vs) (upd (upd H dx (.own x)) x (.ins C dx [])) (fun v H2 => v = .non ∧ Q (.ref x) H2) E) : wpAny (model X.prog X.w) X.A (call (.ref C) us) (EP X pins σ Q) X.xe s := by
  have q := h (s.heap.objs.size + 1) s.heap.objs.size (I.hok.fresh (Nat.le_succ _)) (I.hok.fresh (Nat.le_refl _)) (Nat.ne_of_lt (Nat.lt_succ_self _))
  have J := Inv.made (C := C) I
  have rr : Vals (V.ref (s.heap.objs.size + 1) :: vs) (Value.ref (s.heap.objs.size + 1) :: us) := .cons rfl r
  have n : (Value.ref (s.heap.objs.size + 1) :: us ++ []).length = ps.length := by rw [List.append_nil, ← rr.length]; exact len _ _ _ _ q
  refine wpAny_call (make_map (f := f) I.kIn M.makes M.init (beq_iff_eq.mp M.fn) (codeAny_mono (F _ X.stack _ _ ⟨Value.ref (s.heap.objs.size + 1) :: us, []⟩ (Value.ref (s.heap.objs.size + 1) :: us ++ []) _ _ E gd (hr.make C us []) (J.env0.make C us []) (hb _ (Value.ref (s.heap.objs.size + 1) :: us) J.kIn n) (by rw [List.append_nil]; exact rr) q) fun r' s' z => ?_))
  cases r' with
  | error e => exact hx σ pins _ _ e s' J z
  | ok fl => cases fl with
    | ret u =>
      obtain ⟨v, H', I3, rv, ev, q3⟩ := J.after z
      subst ev
      exact ⟨rv, V.ref (s.heap.objs.size + 1), H', I3, rfl, q3⟩
    | _ => exact (show False from z).elim
def tMakeGX (C : Addr) (sp : Sp) (E : XK) (t : TA) : TE := fun σ H Q => t σ H fun vs H1 => ∀ x dx, H1 x = none → H1 dx = none → dx ≠ x → sp (.ref x :: vs) (upd (upd H1 dx (.own x)) x (.ins C dx [])) (fun v H2 => v = .non ∧ Q (.ref x) H2) E
theorem pe_makeGX (M : Mk X.K C f) (F : FnG X.prog X.w X.K X.mg X.base (L2.CX X.prog X.w) k f fd ps sp) (len : ∀ vs H Q E, sp vs H Q E → vs.length = ps.length) (gd : X.A.guards = some []) (hr : Room (k + 1) X.A) (hb : Binds X.K fd ps []) (hx : ∀ σ, PassesAt (L2.CX X.prog X.w) X σ E) (hg : Gl X x) (hm : X.mg x = some (.ref C))
    (ha : PA X (e :: es) t) (hdb : (x == ("__debug__" : Str)) = false := by decide) (he : starEach (e :: es) X.env = (false, eval e X.env) :: starEach es X.env := by rfl) (hpl : (backTo pos (starEach es X.env)).any (·.1) = false := by rfl) : PE X (.Call (.Name x p) (e :: es) [] pos) (tMakeGX C sp E t) := by
  refine ⟨fun pins s σ H Q I h => wpAny_Call_Name_kw (ld_glob I hg hm ?_ hdb)⟩
  exact PySem.W.callWith_K (h₀ := X.base) I.ok.mod.kin M.kp (thn (ha.run pos pins s σ H _ I h) fun us s1 ⟨vs, H1, I1, r, q⟩ => ⟨I1.kIn, run_makeGX M F len gd hr hb hx I1 r q⟩) he hpl
end
end XG
namespace Tb
open PySem PySem.Spec PyProof.Rows L2 EvP Cm Fk DtE KyS XG
theorem g_gtB {K : PySem.W.Frag} {σ : L2.St} {H : Hp} {te : TE} {xs : List V} (h : EvP.Gives te σ H (tupV xs)) {r : List V → Hp → VK → Prop} (hr : ∀ p H1 Q, SqT K H1 p xs → Q (.int (xs.length : Nat)) H1 → r [.ref p] H1 Q) :
    Tst (tTest (tOp (rI0 fun i j => .bl (decide (j < i))) (tCB r (tCons te tNil)) (tC (.int 6)))) σ H (decide (6 < xs.length)) :=
  t_test (g_op (P := is (.int (xs.length : Nat))) (R := is (.int 6)) (g_call h fun v H1 e ⟨a, ev, ha⟩ Q q => by
    subst ev
    exact hr a H1 Q (SqT.of ha) (q _ _ (Ex.refl _) rfl)) EvP.cst fun x y H1 e ex ey Q q => ⟨(xs.length : Nat), 6, ex, ey, q _ _ (Ex.refl _) (by
    show V.bl (decide ((6 : Int) < (xs.length : Nat))) = V.bl (decide (6 < xs.length))
    by_cases c : 6 < xs.length
    · rw [decide_eq_true c, decide_eq_true (by omega)]
    · rw [decide_eq_false c, decide_eq_false (by omega)])⟩)
/-- if t: ..; both ways -/
theorem st_ifB {tt : TT} {t u : TS} {D : Ends} {σ : L2.St} {H : Hp} {b : Bool} (h : Tst tt σ H b) (kT : b = true → ∀ H1, Ex H H1 → t { D with nx := u D } σ H1) (kF : b = false → ∀ H1, Ex H H1 → u D σ H1) : tSeq (tIfS tt t tNext) u D σ H := h H (Ex.refl H) _ fun H1 e => by
  cases b with
  | true => exact kT rfl H1 e
  | false => exact kF rfl H1 e
/-- the error's class, as the top has written it -/
structure ManyC (P : Program) (w : World) (K : PySem.W.Frag) (mg : Str → Option Value) (base : Heap) (CT fE : Addr) (fdE : FuncData) : Prop where
  T : OexC K CT
  iC : PySem.W.findIn K (.ref CT) "__init__" = some (some (.ref fE))
  tI : PySem.W.typeIn K (.ref fE) = some (.type "function")
  n1 : PySem.W.findIn K (.ref CT) "what" = some none
  n2 : PySem.W.findIn K (.ref CT) "most" = some none
  G : FnOk P w K mg base CX0 1 fE fdE ["self", "what", "most"] (spInit2 K "what" "most")
  b : Binds K fdE ["self", "what", "most"] []
  g : mg "TooMany" = some (.ref CT)
/-- what a TooMany keeps -/
abbrev manyF (s : Str) : List (Str × V) := [(("most" : Str), V.int 6), (("what" : Str), V.str s)]
/-- raise TooMany(s, 6): the way out -/
theorem raise_many {P : Program} {w : World} {K : PySem.W.Frag} {mg : Str → Option Value} {base : Heap} {CT fE : Addr} {fdE : FuncData} {σ : L2.St} {H : Hp} {s : Str} {E : XK} (L : ManyC P w K mg base CT fE fdE) (k : ∀ d H', Ex H H' → H' d = some (.xd (manyF s)) → E (.ref CT) (some d) H') :
    tMkO CT (spInit2 K "what" "most") [] (tCons (tC (.str s)) (tCons (tC (.int 6)) tNil)) σ H (fun cls d H' => E cls d H') := by
  refine ⟨(by show 2 ≤ 1000; decide), fun a ha => ?_⟩
  refine ⟨a, CT, .str s, .int 6, rfl, L.T, L.n1, L.n2, upd_same, fun d hd ne => ?_⟩
  have hd' : H d = none := by rw [upd_ne ne] at hd; exact hd
  refine ⟨rfl, d, manyF s, by rw [upd_ne ne.symm, upd_same], upd_same, hd', ?_⟩
  refine k d _ (fun b o z => ?_) upd_same
  rw [upd_ne (ne_of_none z hd'), del_ne (ne_of_none z ha), upd_ne (ne_of_none z hd'), upd_ne (ne_of_none z ha), upd_ne (ne_of_none z hd'), upd_ne (ne_of_none z ha)]
  exact z
/-- all but x stays -/
abbrev ButX (x : Addr) (H H' : Hp) : Prop := ∀ b o, H b = some o → b ≠ x → H' b = some o
def spTIX (K : PySem.W.Frag) (C CT : Addr) : Sp := fun vs H Q E => ∃ (x d u dx : Addr) (T : Tab) (us : List Str), vs = [.ref x, .ref d, .ref u] ∧ H x = some (.ins C dx []) ∧ TabAt H d T ∧ TabOk T ∧ SqA K H u (us.map V.str) ∧ (∀ n ∈ us, NameV (.str n)) ∧ us.length ≤ 100 ∧
  (6 < T.length → ∀ dd H', ButX x H H' → H' dd = some (.xd (manyF "sources")) → E (.ref CT) (some dd) H') ∧ (T.length ≤ 6 → 6 < (usesOf us T).length → ∀ dd H', ButX x H H' → H' dd = some (.xd (manyF "uses")) → E (.ref CT) (some dd) H') ∧
  (T.length ≤ 6 → (usesOf us T).length ≤ 6 → ∀ H', ButX x H H' → TblAt C H' x (srt (T.map (·.1))) (usesOf us T) (worths T) → Q .non H')
theorem spTIX_len {K : PySem.W.Frag} {C CT : Addr} : ∀ vs H Q E, spTIX K C CT vs H Q E → vs.length = (["self", "rows", "uses"] : List Str).length := fun vs H Q E h => by
  obtain ⟨x, d, u, dx, T, us, rfl, _⟩ := h
  rfl
theorem spTI_X {K : PySem.W.Frag} {C CT : Addr} : ∀ vs H Q E, spTI K C vs H Q E → spTIX K C CT vs H Q E0 := fun vs H Q E h => by
  obtain ⟨x, d, u, dx, T, us, h1, h2, h3, h4, h5, h6, h7, h8, h9, h10⟩ := h
  exact ⟨x, d, u, dx, T, us, h1, h2, h3, h4, h6, h7, h8, fun c => by omega, fun _ c => by omega, fun _ _ => h10⟩
section
variable {P : Program} {w : World} {K : PySem.W.Frag} {mg : Str → Option Value} {base : Heap} {C CT f fC fA fJ fE : Addr} {fd fdC fdA fdJ fdE : FuncData} {dvs : List V} {kws : List (Str × V)}
theorem ok_tinitX {t6 : Tok} (F : FunD K "__init__" "Table.__init__" (defArgs sTI) (defBody sTI) (defScope sTI) dvs kws f fd) (S : TblC K C) (L : ManyC P w K mg base CT fE fdE) (T : Blt mg) (R : BltR mg) (gM : mg "MOST_NAMES" = some (.int 6 t6))
    (GC : FnOk P w K mg base CX0 4 fC fdC ["rows", "uses"] (spCheck K)) (bC : Binds K fdC ["rows", "uses"] []) (gC : mg "check_table" = some (.ref fC)) (kC : PySem.W.keepIn K (.ref fC) = true)
    (GA : FnG P w K mg base CX0 1 fA fdA ["values"] (spAsc K)) (bA : Binds K fdA ["values"] []) (gA : mg "ascending" = some (.ref fA)) (kA : PySem.W.keepIn K (.ref fA) = true)
    (GJ : FnG P w K mg base CX0 3 fJ fdJ ["one", "other"] (spJoined K)) (bJ : Binds K fdJ ["one", "other"] []) (gJ : mg "joined" = some (.ref fJ)) (kJ : PySem.W.keepIn K (.ref fJ) = true) :
    FnG P w K mg base (L2.CX P w) 5 f fd ["self", "rows", "uses"] (spTIX K C CT) := by
  have nd := scTI.nd
  refine FunD.okGX F scTI spTIX_len fun cdv A outer s H vs Q E gd hr h => ?_
  obtain ⟨x, d, u, dx, Tb, us, rfl, hx, hT, ok, hU, nU, fu, kS, kU, q⟩ := h
  have hu : A.units + 3 + 1 < cLine := by
    have : A.units + 3 + 16 * 4 + 200 < cLine := hr.un
    omega
  refine ⟨_, pss_cons (ps_expr (pe_call GC hr (by rfl) gC kC bC .nil pass0 (pa_cons (pv 1) (pa_cons (pv 2) pa_nil))))
    (pss_cons (ps_fld (pv 0) (pe_callG GA spAsc_len gd (hr.mono (by decide)) (by rfl) gA kA bA (pa_cons (pe_callTy (T := "list") (call_listD rfl) (by rfl) R.list (by decide +kernel) (pa_cons (pv 1) pa_nil)) pa_nil)) rfl)
    (pss_cons (ps_fld (pv 0) (pe_callG GJ spJoined_len gd (hr.mono (by decide)) (by rfl) gJ kJ bJ (pa_cons (pv 2) (pa_cons (pe_lockL (pe_lc2 (own := [("row", 3), ("use", 4)]) (vs1 := [4]) (g := gName 3) (tt := tYes) (wi1 := iKeys (tVar 3)) (g1 := gName 4) (tt1 := tYes) (te := tVar 4) rfl nd (pi_values (pv 1)) (blkOk_by (N := NI) (sc := defScope sTI) (by decide +kernel)) (by decide)
        (fun _ _ _ _ _ => pg_name (i := 3) nd rfl (Or.inl rfl)) (fun _ _ _ _ _ => pts_nil) (fun _ _ _ _ _ => pi_keys (pv 3)) (fun _ _ _ _ _ => pg_name (i := 4) nd rfl (Or.inl rfl)) (fun _ _ _ _ _ => pts_nil) (fun _ _ _ _ _ => pv 4))) pa_nil))) rfl)
    (pss_cons (ps_if (pt_cmpR op_gt (pe_callB call_len_seq (by rfl) T.len PySem.boot_len (pa_cons (pe_fld (pv 0) rfl) pa_nil)) (pe_glob (v := .int 6) (by rfl) gM ⟨_, rfl⟩) (nomark _)) (pss_one (ps_raise (W := fun cls d _ H => E cls d H) rfl (takes_of rfl rfl rfl rfl) (pmk_oex (CX := CX0) L.T L.iC L.tI L.G (hr.mono (by decide)) L.b .nil pass0 (by rfl) L.g (pa_cons pe_str (pa_cons (pe_glob (v := .int 6) (by rfl) gM ⟨_, rfl⟩) pa_nil))))) pss_nil)
    (pss_cons (ps_if (pt_cmpR op_gt (pe_callB call_len_seq (by rfl) T.len PySem.boot_len (pa_cons (pe_fld (pv 0) rfl) pa_nil)) (pe_glob (v := .int 6) (by rfl) gM ⟨_, rfl⟩) (nomark _)) (pss_one (ps_raise (W := fun cls d _ H => E cls d H) rfl (takes_of rfl rfl rfl rfl) (pmk_oex (CX := CX0) L.T L.iC L.tI L.G (hr.mono (by decide)) L.b .nil pass0 (by rfl) L.g (pa_cons pe_str (pa_cons (pe_glob (v := .int 6) (by rfl) gM ⟨_, rfl⟩) pa_nil))))) pss_nil)
    (pss_cons (ps_fld (pv 0) (pe_lockL (Dc2.pe_dc2 (own := [("a", 5), ("row", 3), ("x", 6), ("worth", 7)]) (vs1 := [6, 7]) (g := gTup K 2 (gCons (gName 5) (gCons (gName 3) gNil))) (tt := tYes) (wi1 := iItems (tVar 3)) (g1 := gTup K 2 (gCons (gName 6) (gCons (gName 7) gNil)))
        (tt1 := tTest (tOp (rI0 fun i j => .bl (decide (j < i))) (tVar 7) (tC (.int 0)))) (tk := tTup (tCons (tVar 5) (tCons (tVar 6) tNil))) (tv := tVar 7) hu rfl nd (by exact pi_items (pv 1)) (blkOk_by (N := NI) (sc := defScope sTI) (by decide +kernel)) (by decide)
        (fun _ _ _ _ _ => by exact pg_tup rfl (pgs_cons (pg_name (i := 5) nd rfl (Or.inl rfl)) (pgs_cons (pg_name (i := 3) nd rfl (Or.inl rfl)) pgs_nil))) (fun _ _ _ _ _ => pts_nil) (fun _ _ _ _ _ => by exact pi_items (pv 3))
        (fun _ _ _ _ _ => by exact pg_tup rfl (pgs_cons (pg_name (i := 6) nd rfl (Or.inl rfl)) (pgs_cons (pg_name (i := 7) nd rfl (Or.inl rfl)) pgs_nil))) (fun _ _ _ _ _ => pts_one (pt_cmpR op_gt (pv 7) pe_int (nomark _)))
        (fun _ _ _ _ _ => pe_tup (pa_cons (pv 5) (pa_cons (pv 6) pa_nil))) (fun _ _ _ _ _ => pv 7))) rfl)
    (pss_one (ps_fld (pv 0) (pe_callG GA spAsc_len gd (hr.mono (by decide)) (by rfl) gA kA bA (pa_cons (pe_callTy (T := "list") (call_list_dT rfl) (by rfl) R.list (by decide +kernel) (pa_cons (pe_fld (pv 0) rfl) pa_nil)) pa_nil)) rfl))))))), ?_⟩
  refine ⟨_, rfl, _, rfl, d, u, Tb, us, rfl, hT, ok, hU, nU, fun H1 e1 => ?_⟩
  dsimp only
  have hx1 := e1 _ _ hx
  have en : (Tb.map fun t => ((Sum.inr t.1 : Key), V.ref t.2.1)).map (fun kv => kV kv.1) = (Tb.map (·.1)).map V.str := by
    rw [List.map_map, List.map_map]
    rfl
  -- sources
  refine' st_fld ?s1 ?k1
  case s1 =>
    refine g_ascL (ns := Tb.map (·.1)) ?_
    rw [← en]
    exact g_listD rfl (e1 _ _ hT.at_)
  intro v1 H2 e2 ⟨n1, ev, h1⟩
  subst ev
  have hx2 := e2 _ _ hx1
  have ne1 : n1 ≠ x := ne_of h1 hx2 (fun z => nomatch z)
  refine ⟨x, C, dx, [], rfl, hx2, S.cl, S.nS, by show 0 < 1000; decide, ?_⟩
  have k2 : ∀ b o, H b = some o → b ≠ x → upd H2 x (.ins C dx (putF "sources" (.ref n1) [])) b = some o := fun b o h ne => by
    rw [upd_ne ne]
    exact e2 _ _ (e1 _ _ h)
  have f2 := upd_same (H := H2) (a := x) (o := .ins C dx (putF "sources" (.ref n1) []))
  have g1 : upd H2 x (.ins C dx (putF "sources" (.ref n1) [])) n1 = some (.tup ((srt (Tb.map (·.1))).map V.str)) := by
    rw [upd_ne ne1]
    exact h1
  generalize upd H2 x (.ins C dx (putF "sources" (.ref n1) [])) = G2 at k2 f2 g1 ⊢
  have T2 := hT.but hx k2
  have U2 := SqA.but hx k2 hU
  -- uses
  refine' st_fld (P := tupV ((usesOf us Tb).map V.str)) ?s2 ?k2
  case s2 =>
    intro H3 e3 Q3 q3
    refine ⟨_, rfl, g_uses (T2.ex e3) ok H3 (Ex.refl H3) _ fun v H4 e4 ⟨b, eb, hb⟩ => ?_⟩
    subst eb
    refine ⟨u, b, us, namesOf Tb, rfl, SqA.keep (e3.trans e4) U2, .inl (SqL.of hb), by have := names_few ok; omega, fun p H5 e5 np h5 => q3 _ H5 (e4.trans e5) ⟨p, rfl, h5⟩⟩
  intro v2 H3 e3 ⟨n2, ev, h2⟩
  subst ev
  have hx3 := e3 _ _ f2
  have ne2 : n2 ≠ x := ne_of h2 hx3 (fun z => nomatch z)
  refine ⟨x, C, dx, _, rfl, hx3, S.cl, S.nU, by show 1 < 1000; decide, ?_⟩
  have k3 : ∀ b o, G2 b = some o → b ≠ x → upd H3 x (.ins C dx (putF "uses" (.ref n2) (putF "sources" (.ref n1) []))) b = some o := fun b o h ne => by
    rw [upd_ne ne]
    exact e3 _ _ h
  have f3 := upd_same (H := H3) (a := x) (o := .ins C dx (putF "uses" (.ref n2) (putF "sources" (.ref n1) [])))
  have g2 : upd H3 x (.ins C dx (putF "uses" (.ref n2) (putF "sources" (.ref n1) []))) n2 = some (.tup ((usesOf us Tb).map V.str)) := by
    rw [upd_ne ne2]
    exact h2
  generalize upd H3 x (.ins C dx (putF "uses" (.ref n2) (putF "sources" (.ref n1) []))) = G3 at k3 f3 g2 ⊢
  have g1' := k3 _ _ g1 ne1
  have T3 := T2.but f2 k3
  -- too many
  have s6 : ((srt (Tb.map (·.1))).map V.str).length = Tb.length := by
    rw [List.length_map, (srt_perm _).length_eq, List.length_map]
  have back : ∀ H', Ex G3 H' → ButX x H H' := fun H' e b o h ne => e _ _ (k3 _ _ (k2 _ _ h ne) ne)
  refine st_ifB (g_gtB (K := K) (g_fld rfl f3 S.cl S.nS rfl (⟨n1, rfl, g1'⟩ : (tupV ((srt (Tb.map (·.1))).map V.str)).R (.ref n1) G3)) fun p H1 Q h q => ⟨p, _, rfl, .inr h, q⟩) (fun c6 H4 e4 => ?_) fun c6 H4 e4 => ?_
  · rw [s6, decide_eq_true_eq] at c6
    exact raise_many L fun dd H5 e5 hd => kS c6 dd H5 (back H5 (e4.trans e5)) hd
  rw [s6, decide_eq_false_iff_not] at c6
  have l6 : Tb.length ≤ 6 := by omega
  refine st_ifB (g_gtB (K := K) (g_fld rfl (e4 _ _ f3) S.cl S.nU rfl (⟨n2, rfl, e4 _ _ g2⟩ : (tupV ((usesOf us Tb).map V.str)).R (.ref n2) H4)) fun p H1 Q h q => ⟨p, _, rfl, .inr h, q⟩) (fun c7 H5 e5 => ?_) fun c7 H5 e5 => ?_
  · rw [List.length_map, decide_eq_true_eq] at c7
    exact raise_many L fun dd H6 e6 hd => kU l6 c7 dd H6 (back H6 ((e4.trans e5).trans e6)) hd
  rw [List.length_map, decide_eq_false_iff_not] at c7
  replace q := q l6 (by omega)
  have e45 := e4.trans e5
  have T5 := T3.ex e45
  have f5 := e45 _ _ f3
  -- worths
  refine' st_fld (P := dictT H5 (worths Tb)) ?s3 ?k3
  case s3 =>
    refine g_lock (locks_nod T5 ok.nodA) (locks_at T5) (P0 := ⟨fun v Hz => ∃ a, v = .ref a ∧ Hz a = some (.dT (tents (worths Tb))) ∧ H5 a = none, fun _ _ _ e ⟨a, h1, h2, h3⟩ => ⟨a, h1, e _ _ h2, h3⟩⟩) (fun H6 e6 Hf fr => ?_) fun v H6 Hf H7 H8 e6 fr e7 th ⟨a, ev, ha, na⟩ => ⟨a, ev, th.new fr e7 ha fun _ _ z => (nomatch z), na⟩
    refine Gives.imp (comp_worths (K := K) (Froz.tab fr) (worths_nod ok) (Nat.le_trans (worths_few ok) (by decide))) fun v Hz ⟨a, ev, ha, na⟩ => ⟨a, ev, ha, ?_⟩
    cases hz : H5 a with
    | none => rfl
    | some o =>
      exfalso
      by_cases m : a ∈ (locks d Tb).map (·.1)
      · obtain ⟨p, hp, rfl⟩ := List.mem_map.mp m
        obtain ⟨od, y⟩ := fr.at_ p hp
        rw [y] at na
        cases na
      · rw [fr.old a m, e6 _ _ hz] at na
        cases na
  intro v3 H6 e6 ⟨dw, ev, h3, nw⟩
  subst ev
  have hx6 := e6 _ _ f5
  have ne3 : dw ≠ x := ne_of h3 hx6 (fun z => nomatch z)
  refine ⟨x, C, dx, _, rfl, hx6, S.cl, S.nW, by show 2 < 1000; decide, ?_⟩
  have k6 : ∀ b o, G3 b = some o → b ≠ x → upd H6 x (.ins C dx (putF "_worths" (.ref dw) (putF "uses" (.ref n2) (putF "sources" (.ref n1) [])))) b = some o := fun b o h ne => by
    rw [upd_ne ne]
    exact e6 _ _ (e45 _ _ h)
  have f6' := upd_same (H := H6) (a := x) (o := .ins C dx (putF "_worths" (.ref dw) (putF "uses" (.ref n2) (putF "sources" (.ref n1) []))))
  have g3 : upd H6 x (.ins C dx (putF "_worths" (.ref dw) (putF "uses" (.ref n2) (putF "sources" (.ref n1) [])))) dw = some (.dT (tents (worths Tb))) := by
    rw [upd_ne ne3]
    exact h3
  generalize upd H6 x (.ins C dx (putF "_worths" (.ref dw) (putF "uses" (.ref n2) (putF "sources" (.ref n1) [])))) = G6 at k6 f6' g3 ⊢
  have g1'' := k6 _ _ g1' ne1
  have g2'' := k6 _ _ g2 ne2
  -- pairs
  refine' st_fld1 (P := tup ((sortK ((worths Tb).map (·.1))).map fun k => tupV (k.map kV))) ?s4 ?k4
  case s4 =>
    intro H7 e7 Q7 q7
    refine g_fld (K := K) (P := is (.ref dw)) rfl f6' S.cl S.nW rfl rfl H7 e7 _ fun v H8 e8 ev => ?_
    cases (show v = .ref dw from ev)
    refine ⟨dw, tents (worths Tb), rfl, .inl (e8 _ _ (e7 _ _ g3)), fun p bs hp kk => ?_⟩
    have kk2 : IsKeys (upd H8 p (.lst (bs.map V.ref))) (tents (worths Tb)) bs := Paired.mapP kk fun _ _ z => Ex.new hp _ _ z
    obtain ⟨a1, a2⟩ := asc_pairs kk2 (worths_pair ok)
    exact ⟨p, bs.map V.ref, _, rfl, SqL.of upd_same, a1, fun p2 H9 e9 np h9 => q7 _ H9 ((e8.trans (Ex.new hp)).trans e9) ⟨p2, _, rfl, h9, a2.ex e9⟩⟩
  intro v4 H7 e7 ⟨p, prs, ev, h4, hprs⟩
  subst ev
  have hx7 := e7 _ _ f6'
  have ne4 : p ≠ x := ne_of h4 hx7 (fun z => nomatch z)
  refine ⟨x, C, dx, _, rfl, hx7, S.cl, S.nP, by show 3 < 1000; decide, ?_⟩
  have un : ∀ {b o o'}, H7 b = some o → b ≠ x → upd H7 x o' b = some o := fun h ne => by
    rw [upd_ne ne]
    exact h
  exact q _ (fun b o h ne => un (e7 _ _ (k6 _ _ (k3 _ _ (k2 _ _ h ne) ne) ne)) ne) ⟨dx, n1, n2, dw, p, prs, upd_same, un (e7 _ _ g1'') ne1, un (e7 _ _ g2'') ne2, un (e7 _ _ g3) ne3, un h4 ne4, keys_stay hx7 (fun ys z => nomatch z) hprs⟩
end
end Tb

set_option Elab.async false
set_option linter.all false
set_option maxRecDepth 100000
set_option maxHeartbeats 4000000
/-! Table(..) of a new dict of new rows, and a tuple of its uses: up to twelve names, refused beyond six. -/
namespace K06
open PySem PySem.Spec PyProof.Rows L2 Cm
open DtE (TRow tents lookT)
open Tb (key2 PairK wk TblAt TblC Tab TabAt rowsO firsts manyF)
open Fk (NameV nameB srt srt_perm ents)
open EvP (Ex All2 is Gives)
/-- the table of these names and worths -/
def tblV (C : Addr) (ss xs : List Str) (r : TRow) : EvP.PR := ⟨fun v H => ∃ x, v = .ref x ∧ TblAt C H x ss xs r, fun _ _ _ e ⟨x, h1, h2⟩ => ⟨x, h1, h2.mono e⟩⟩
theorem NamesOk.perm {A B : List Str} (n : NamesOk A) (p : A.Perm B) : NamesOk B := ⟨p.nodup_iff.mp n.nod, fun x hx => n.nm x (p.mem_iff.mpr hx), by rw [← p.length_eq]; exact n.few⟩
theorem NamesOk.srt {A : List Str} (n : NamesOk A) : NamesOk (srt A) := n.perm (srt_perm A).symm
/-- names, perhaps more than a table takes -/
structure NamesL (ss : List Str) : Prop where
  nod : ss.Nodup
  nm : ∀ n ∈ ss, Fk.NameV (.str n)
  few : ss.length ≤ 12
theorem NamesL.srt {A : List Str} (n : NamesL A) : NamesL (srt A) := ⟨(srt_perm A).nodup_iff.mpr n.nod, fun x hx => n.nm x ((srt_perm A).mem_iff.mp hx), by rw [(srt_perm A).length_eq]; exact n.few⟩
theorem firsts_acc : ∀ (l acc : List Str), acc.Nodup → (l.foldl (fun acc n => if n ∈ acc then acc else acc ++ [n]) acc).Nodup ∧ ∀ x, x ∈ l.foldl (fun acc n => if n ∈ acc then acc else acc ++ [n]) acc ↔ x ∈ acc ∨ x ∈ l
  | [], acc, h => ⟨h, fun x => by simp⟩
  | n :: l, acc, h => by
    rw [List.foldl_cons]
    by_cases c : n ∈ acc
    · rw [if_pos c]
      obtain ⟨a, b⟩ := firsts_acc l acc h
      refine ⟨a, fun x => (b x).trans ⟨fun z => z.imp id (.tail _), fun z => ?_⟩⟩
      rcases z with z | z
      · exact .inl z
      · rcases List.mem_cons.mp z with rfl | z
        · exact .inl c
        · exact .inr z
    · rw [if_neg c]
      obtain ⟨a, b⟩ := firsts_acc l (acc ++ [n]) (by
        rw [List.nodup_append]
        refine ⟨h, by simp, fun x hx y hy e => c ?_⟩
        rw [List.mem_singleton.mp hy] at e
        rw [← e]
        exact hx)
      refine ⟨a, fun x => (b x).trans ?_⟩
      rw [List.mem_append, List.mem_singleton, List.mem_cons, or_assoc]
theorem firsts_nodup (l : List Str) : (firsts l).Nodup := (firsts_acc l [] List.nodup_nil).1
theorem mem_firsts {l : List Str} {x : Str} : x ∈ firsts l ↔ x ∈ l := by
  have := (firsts_acc l [] List.nodup_nil).2 x
  unfold firsts
  rw [this]
  simp
theorem firsts_L {l : List Str} (h : ∀ n ∈ l, Fk.NameV (.str n)) (z : l.length ≤ 12) : NamesL (firsts l) := ⟨firsts_nodup l, fun n hn => h n (mem_firsts.mp hn), by
  have := Tb.firsts_len l []
  unfold firsts
  rw [List.length_nil] at this
  omega⟩
def rowG (g : List Key → Int) (B : List Str) (a : Str) : Fk.Row := B.map fun x => (x, g (key2 a x))
theorem rowG_keys {g : List Key → Int} {B : List Str} {a : Str} : (rowG g B a).map (·.1) = B := by
  unfold rowG
  rw [List.map_map]
  exact List.map_id _
theorem mk_tab {A B : List Str} {g : List Key → Int} {T : Tab} (nA : NamesL A) (nB : NamesL B) (eT : T.map (fun t => (t.1, t.2.2)) = A.map fun a => (a, rowG g B a)) (nod : (T.map (·.2.1)).Nodup) (nn : ∀ k, 0 ≤ g k) :
    Tb.TabOk T ∧ T.map (·.1) = A ∧ Tb.usesOf B T = srt B ∧ Tb.worths T = genR g A B := by
  have nT : T.map (·.1) = A := by
    have := congrArg (List.map Prod.fst) eT
    rw [List.map_map, List.map_map] at this
    exact this.trans (List.map_id _)
  have mT : ∀ t ∈ T, t.1 ∈ A ∧ t.2.2 = rowG g B t.1 := fun t ht => by
    have : (t.1, t.2.2) ∈ A.map fun n => (n, rowG g B n) := by
      rw [← eT]
      exact List.mem_map.mpr ⟨t, ht, rfl⟩
    obtain ⟨n, hn, e⟩ := List.mem_map.mp this
    obtain ⟨f1, f2⟩ := Prod.mk.inj e
    exact ⟨by rw [← f1]; exact hn, by rw [← f1, ← f2]⟩
  refine ⟨⟨by rw [nT]; exact nA.nod, nod, fun t ht => nA.nm _ (mT t ht).1, fun t ht => ?_, ?_⟩, nT, ?_, ?_⟩
  · rw [(mT t ht).2]
    refine ⟨by rw [rowG_keys]; exact nB.nod, fun e he => ?_, by unfold rowG; rw [List.length_map]; exact nB.few⟩
    obtain ⟨u, hu, rfl⟩ := List.mem_map.mp he
    exact ⟨nB.nm u hu, nn _⟩
  · have := congrArg List.length nT
    rw [List.length_map] at this
    rw [this]
    exact nA.few
  · unfold Tb.usesOf Tb.firsts
    rw [List.foldl_append, firsts_nod B [] nB.nod, List.nil_append, firsts_in _ _ fun y hy => ?_]
    unfold Tb.namesOf at hy
    obtain ⟨t, ht, hy⟩ := List.mem_flatMap.mp hy
    rw [(mT t ht).2, rowG_keys] at hy
    exact hy
  · have : Tb.worths T = (T.map fun t => (t.1, t.2.2)).flatMap fun p => Tb.wrow p.1 p.2 := by
      rw [List.flatMap_map]
      rfl
    rw [this, eT, List.flatMap_map]
    rfl
section
variable {K : PySem.W.Frag} {σ : L2.St} {H H0 : Hp} {td tu : TE} {C CT : Addr} {E : XK} {Q : VK}
theorem go_makeT {A B : List Str} {g : List Key → Int} (hd : Gives td σ H (tabN H0 (A.map fun a => (a, rowG g B a)))) (hu : Gives tu σ H (tupV (B.map V.str))) (nA : NamesL A) (nB : NamesL B) (nn : ∀ k, 0 ≤ g k)
    (kS : 6 < A.length → ∀ dd H', Ex H H' → H' dd = some (.xd (manyF "sources")) → E (.ref CT) (some dd) H') (kU : A.length ≤ 6 → 6 < B.length → ∀ dd H', Ex H H' → H' dd = some (.xd (manyF "uses")) → E (.ref CT) (some dd) H')
    (kQ : A.length ≤ 6 → B.length ≤ 6 → ∀ v H', Ex H H' → (tblV C (srt A) (srt B) (genR g A B)).R v H' → Q v H') : XG.tMakeGX C (Tb.spTIX K C CT) E (tCons td (tCons tu tNil)) σ H Q := by
  unfold XG.tMakeGX tCons
  dsimp only
  refine hd H (Ex.refl H) _ fun v H2 e2 hv => ?_
  refine hu H2 e2 _ fun w H3 e3 ⟨u, ew, h3⟩ => ?_
  subst ew
  obtain ⟨d, T, rfl, hT, eT, nod, _⟩ := hv.ex
  obtain ⟨to, nT, eu, ewr⟩ := mk_tab nA nB eT nod nn
  refine fun x' dx' nx ndx ne => ?_
  have e4 := Ex.new (o := .own x') ndx
  have nx2 : upd H3 dx' (.own x') x' = none := by
    rw [upd_ne ne.symm]
    exact nx
  have e5 := e4.trans (Ex.new (o := .ins C dx' []) nx2)
  have hx : upd (upd H3 dx' (.own x')) x' (.ins C dx' []) x' = some (.ins C dx' []) := upd_same
  generalize upd (upd H3 dx' (.own x')) x' (.ins C dx' []) = H4 at e5 hx ⊢
  have lT : T.length = A.length := by
    have := congrArg List.length nT
    rwa [List.length_map] at this
  have lB : (Tb.usesOf B T).length = B.length := by rw [eu, (srt_perm _).length_eq]
  have back : ∀ {H'}, Tb.ButX x' H4 H' → Ex H H' := fun k c o hc => k _ _ (e5 _ _ (e3 _ _ (e2 _ _ hc))) (ne_of_none (e3 _ _ (e2 _ _ hc)) nx)
  refine ⟨x', d, u, dx', T, B, rfl, hx, hT.ex (e3.trans e5), to, .inr (SqT.of (e5 _ _ h3)), nB.nm, Nat.le_trans nB.few (by decide), fun c dd H' k hd => kS (by omega) dd H' (back k) hd, fun c1 c2 dd H' k hd => kU (by omega) (by omega) dd H' (back k) hd, fun c1 c2 H5 k5 ta => ⟨rfl, ?_⟩⟩
  rw [eu, nT, ewr] at ta
  exact kQ (by omega) (by omega) _ H5 (back k5) ⟨x', rfl, ta⟩
/-- x, y = a, b -/
theorem st_two {ta tb : TE} {i j : Nat} {P R : EvP.PR} {u : TS} {D : Ends} (h : EvP.Gives ta σ H P) (k : EvP.Gives tb σ H R) (c : ∀ v w H1, Ex H H1 → P.R v H1 → R.R w H1 → u D ((σ.set i (some v)).set j (some w)) H1) : tSeq (tAsg (tTup (tCons ta (tCons tb tNil))) (gTup K 2 (gCons (gName i) (gCons (gName j) gNil)))) u D σ H :=
  h H (Ex.refl H) _ fun v H1 e1 hv => k H1 e1 _ fun w H2 e2 hw => ⟨by show 2 ≤ sizeLine; decide, fun a ha => ⟨a, [v, w], rfl, SqT.of upd_same, rfl, v, _, rfl, w, _, rfl, rfl, c v w _ ((e1.trans e2).trans (Ex.new ha)) (P.mono _ _ _ (e2.trans (Ex.new ha)) hv) (R.mono _ _ _ (Ex.new ha) hw)⟩⟩
/-- joined(x.f, y.f) -/
theorem g_join {i j : Nat} {x y C dx dy n m : Addr} {fs gs : List (Str × V)} {f : Str} {ns ms : List Str} (hi : σ[i]? = some (some (.ref x))) (hj : σ[j]? = some (some (.ref y))) (hx : H x = some (.ins C dx fs)) (hy : H y = some (.ins C dy gs)) (c : Cls K C) (na : NoAttr K C f)
    (lx : fs.lookup f = some (.ref n)) (ly : gs.lookup f = some (.ref m)) (hn : H n = some (.tup (ns.map V.str))) (hm : H m = some (.tup (ms.map V.str))) (len : ns.length + ms.length ≤ 1000) :
    Gives (tCall (Tb.spJoined K) [] E0 (tCons (tFld K (tVar i) f) (tCons (tFld K (tVar j) f) tNil))) σ H (tupV ((srt (Tb.firsts (ns ++ ms))).map V.str)) := fun H1 e Q q =>
  ⟨_, hi, x, C, dx, fs, _, rfl, e _ _ hx, c, na, lx, _, hj, y, C, dy, gs, _, rfl, e _ _ hy, c, na, ly, n, m, ns, ms, rfl, .inr (SqT.of (e _ _ hn)), .inr (SqT.of (e _ _ hm)), len, fun p H' e' _ hp => q _ _ e' ⟨p, rfl, hp⟩⟩
/-- x[a, u] of a table -/
theorem g_ixT {i j l : Nat} {x : Addr} {ss xs : List Str} {r : TRow} {a u : Str} (hi : σ[i]? = some (some (.ref x))) (hj : σ[j]? = some (some (.str a))) (hl : σ[l]? = some (some (.str u))) (tb : TblAt C H x ss xs r) (na : Fk.NameV (.str a)) (nu : Fk.NameV (.str u)) :
    Gives (tOp (Own.rIxOwn C (Tb.spTItem C)) (tVar i) (tTup (tCons (tVar j) (tCons (tVar l) tNil)))) σ H (is (.int (wk r (key2 a u)))) := fun H9 e9 Q9 q9 =>
  ⟨_, hi, _, hj, _, hl, by show 2 ≤ sizeLine; decide, fun p np => by
    have en := Ex.new (o := .tup [.str a, .str u]) np
    have tb9 := tb.mono (e9.trans en)
    exact ⟨Tb.tbl_ins tb9, x, p, ss, xs, r, key2 a u, rfl, tb9, upd_same, ⟨a, u, rfl, na, nu⟩, q9 _ _ en rfl⟩⟩
theorem ents_rowG {g : List Key → Int} {B : List Str} {a : Str} : ents (rowG g B a) = B.map fun u => ((Sum.inr u : Key), V.int (g (key2 a u))) := by
  unfold ents rowG
  rw [List.map_map]
  rfl
end
end K06

set_option Elab.async false
set_option linter.all false
set_option maxRecDepth 100000
set_option maxHeartbeats 4000000
/-! Tables by the worth of each pair; what the signs give; defs of the top that keep promises. -/
namespace XG
open PySem PySem.Spec PyProof.Rows L2
section
variable {X : Cx} {k : Nat} {f C : Addr} {fd : FuncData} {ps : List Str} {sp : Sp} {x : Str} {p pos : Pos} {e : Expr} {es : List Expr} {t : TA} {dvs : List V} {ds : List Value}
theorem run_makeGD {pins : List (Addr × Obj)} {σ : L2.St} {H : Hp} {s : Shared} {Q : VK} {us : List Value} {vs : List V} (M : Mk X.K C f) (F : FnG X.prog X.w X.K X.mg X.base CX0 k f fd ps sp) (len : ∀ vs H Q E, sp vs H Q E → vs.length = ps.length) (gd : X.A.guards = some []) (hr : Room (k + 1) X.A) (hb : Binds X.K fd ps ds) (hd : Vals dvs ds)
    (I : Inv X pins σ H s) (r : Vals vs us) (h : ∀ x dx, H x = none → H dx = none → dx ≠ x → sp (.ref x :: (vs ++ dvs)) (upd (upd H dx (.own x)) x (.ins C dx [])) (fun v H2 => v = .non ∧ Q (.ref x) H2) E0) : wpAny (model X.prog X.w) X.A (call (.ref C) us) (EP X pins σ Q) X.xe s := by
  have q := h (s.heap.objs.size + 1) s.heap.objs.size (I.hok.fresh (Nat.le_succ _)) (I.hok.fresh (Nat.le_refl _)) (Nat.ne_of_lt (Nat.lt_succ_self _))
  have J := Inv.made (C := C) I
  have rr : Vals (V.ref (s.heap.objs.size + 1) :: (vs ++ dvs)) (Value.ref (s.heap.objs.size + 1) :: us ++ ds) := .cons rfl (r.append hd)
  have n : (Value.ref (s.heap.objs.size + 1) :: us ++ ds).length = ps.length := by rw [← rr.length]; exact len _ _ _ _ q
  refine wpAny_call (make_map (f := f) I.kIn M.makes M.init (beq_iff_eq.mp M.fn) (codeAny_mono (F _ X.stack _ _ ⟨Value.ref (s.heap.objs.size + 1) :: us, []⟩ (Value.ref (s.heap.objs.size + 1) :: us ++ ds) _ _ E0 gd (hr.make C us []) (J.env0.make C us []) (hb _ (Value.ref (s.heap.objs.size + 1) :: us) J.kIn n) rr q) fun r' s' hq => ?_))
  cases r' with
  | error e => exact (show False from hq).elim
  | ok fl =>
    cases fl with
    | ret u =>
      obtain ⟨v, H', I3, rv, ev, q3⟩ := J.after hq
      subst ev
      exact ⟨rv, V.ref (s.heap.objs.size + 1), H', I3, rfl, q3⟩
    | next => exact False.elim hq
    | brk => exact False.elim hq
    | cont => exact False.elim hq
def tMakeGD (C : Addr) (sp : Sp) (dvs : List V) (t : TA) : TE := fun σ H Q => t σ H fun vs H1 => ∀ x dx, H1 x = none → H1 dx = none → dx ≠ x → sp (.ref x :: (vs ++ dvs)) (upd (upd H1 dx (.own x)) x (.ins C dx [])) (fun v H2 => v = .non ∧ Q (.ref x) H2) E0
theorem pe_makeGD (M : Mk X.K C f) (F : FnG X.prog X.w X.K X.mg X.base CX0 k f fd ps sp) (len : ∀ vs H Q E, sp vs H Q E → vs.length = ps.length) (gd : X.A.guards = some []) (hr : Room (k + 1) X.A) (hb : Binds X.K fd ps ds) (hd : Vals dvs ds) (hg : Gl X x) (hm : X.mg x = some (.ref C))
    (ha : PA X (e :: es) t) (hdb : (x == ("__debug__" : Str)) = false := by decide) (he : starEach (e :: es) X.env = (false, eval e X.env) :: starEach es X.env := by rfl) (hpl : (backTo pos (starEach es X.env)).any (·.1) = false := by rfl) : PE X (.Call (.Name x p) (e :: es) [] pos) (tMakeGD C sp dvs t) := by
  refine ⟨fun pins s σ H Q I h => wpAny_Call_Name_kw (ld_glob I hg hm ?_ hdb)⟩
  exact PySem.W.callWith_K (h₀ := X.base) I.ok.mod.kin M.kp (thn (ha.run pos pins s σ H _ I h) fun us s1 ⟨vs, H1, I1, r, q⟩ => ⟨I1.kIn, run_makeGD M F len gd hr hb hd I1 r q⟩) he hpl
end
end XG
namespace K06
open PySem PySem.Spec PyProof.Rows L2 Cm
open DtE (TRow tents lookT sameT)
open Tb (key2 PairK wk TblAt TblC TblI Tab TabAt spTEq spTItem firsts manyF tblT rowsT rowT rowW Wks spTStr)
open Fk (NameV nameB srt srt_perm)
open EvP (Ex All2 is Gives)
/-- as Fun, its code object at c -/
structure FunC (K : PySem.W.Frag) (x qual : Str) (st : Stmt) (f c : Addr) (fd : FuncData) : Prop where
  ex : ∃ (oc : Value) (od : Option Addr) (kV doc pm : Value) (an : Option Addr) (ct : Value) (osl : Array (Option Value)),
    fd = PySem.W.fnOf x qual (defArgs st) (defBody st) (defScope st) .none kV doc pm an (.ref c) ct ∧ K.lookup f = some ⟨oc, od, .func fd, osl⟩ ∧ PySem.W.codeIn K (.ref c) qual = true
  kp : PySem.W.keepIn K (.ref f) = true
theorem FunC.okG {P : Program} {w : World} {K : PySem.W.Frag} {mg : Str → Option Value} {base : Heap} {k : Nat} {f c : Addr} {ps : List Str} {sp : Sp} {x qual : Str} {st : Stmt} {fd : FuncData} {N : List Str} (F : FunC K x qual st f c fd) (S : FnScope N ps (defScope st)) (len : ∀ vs H Q E, sp vs H Q E → vs.length = ps.length)
    (walk : ∀ (A : Around) (outer : List Env) (s : Shared) (H : Hp) (vs : List V) (Q : VK) (E : XK), A.guards = some [] → Room k (A.deeper (envOfC qual (defScope st) s.heap.objs.size f (.ref c))) → sp vs H Q E →
      ∃ t, PSs (cxOf CX0 P w K mg base N qual (defScope st) f (.ref c) A outer s H E).nox (defBody st) t ∧ t { nx := fun _ H' => Q .non H', rt := Q } (start N vs) H) : XG.FnG P w K mg base CX0 (k + 1) f fd ps sp := by
  obtain ⟨oc, od, kV, doc, pm, an, ct, osl, rfl, lk, hcd⟩ := F.ex
  refine XG.fnG_of lk hcd S len fun A outer s H vs Q E gd room h => ?_
  obtain ⟨t, a, b⟩ := walk A outer s H vs Q E gd room h
  exact ⟨t, a.nox, b⟩
def plainP (ss xs : List Str) (r : TRow) : EvP.PR := ⟨fun v H => PlainAt H v ss xs r, fun _ _ _ e h => by
  obtain ⟨t, a, b, d, h0, h1, h2, h3, h4⟩ := h.ex
  exact ⟨t, a, b, d, h0, e _ _ h1, e _ _ h2, e _ _ h3, e _ _ h4⟩⟩
structure CalD (P : Program) (w : World) (K : PySem.W.Frag) (mg : Str → Option Value) (base : Heap) (k : Nat) (x : Str) (ps : List Str) (sp : Sp) where
  f : Addr
  fd : FuncData
  ok : FnOk P w K mg base CX0 k f fd ps sp
  b : Binds K fd ps []
  g : mg x = some (.ref f)
  kp : PySem.W.keepIn K (.ref f) = true
structure CalG (P : Program) (w : World) (K : PySem.W.Frag) (mg : Str → Option Value) (base : Heap) (k : Nat) (x : Str) (ps : List Str) (sp : Sp) where
  f : Addr
  fd : FuncData
  ok : XG.FnG P w K mg base CX0 k f fd ps sp
  len : ∀ vs H Q E, sp vs H Q E → vs.length = ps.length
  b : Binds K fd ps []
  g : mg x = some (.ref f)
  kp : PySem.W.keepIn K (.ref f) = true
structure CalX (P : Program) (w : World) (K : PySem.W.Frag) (mg : Str → Option Value) (base : Heap) (k : Nat) (x : Str) (ps : List Str) (sp : Sp) where
  f : Addr
  fd : FuncData
  ok : XG.FnG P w K mg base (L2.CX P w) k f fd ps sp
  len : ∀ vs H Q E, sp vs H Q E → vs.length = ps.length
  b : Binds K fd ps []
  g : mg x = some (.ref f)
  kp : PySem.W.keepIn K (.ref f) = true
theorem PlainAt.but {H H' : Hp} {v : V} {ss xs : List Str} {r : TRow} {p q : Addr} {ns : List Int} {s g : Int} (h : PlainAt H v ss xs r) (hP : Pen H p q ns s g) (k : But p H H') : PlainAt H' v ss xs r := by
  obtain ⟨t, a, b, d, h0, h1, h2, h3, h4⟩ := h
  exact ⟨t, a, b, d, h0, k _ _ h1 (ne_of h1 hP.p fun z => nomatch z), k _ _ h2 (strs_ne hP h2), k _ _ h3 (strs_ne hP h3), k _ _ h4 (ne_of h4 hP.p fun z => nomatch z)⟩
theorem Alike.good {ss xs : List Str} {r r' : TRow} (a : Alike r' r) (g : GoodR ss xs r) : GoodR ss xs r' ∧ ∀ k, wk r' k = wk r k := by
  have m : ∀ t ∈ r', t ∈ r := fun t ht => by
    have := (look_mem a.nod).mpr (show (t.1, t.2) ∈ r' from ht)
    rw [a.look] at this
    exact (look_mem g.nod).mp this
  refine ⟨⟨a.nod, fun t ht => g.key t (m t ht), fun t ht => g.pos t (m t ht)⟩, fun k => ?_⟩
  unfold wk
  rw [a.look]
/-- a table over these names, by the worth of each pair -/
structure TabW (C : Addr) (ss xs : List Str) (g : List Key → Int) (v : V) (H : Hp) : Prop where
  ex : ∃ (x : Addr) (r : TRow), v = .ref x ∧ TblAt C H x (srt ss) (srt xs) r ∧ GoodR ss xs r ∧ ∀ k, wk r k = g k
def tabW (C : Addr) (ss xs : List Str) (g : List Key → Int) : EvP.PR := ⟨TabW C ss xs g, fun _ _ _ e h => by
  obtain ⟨x, r, h1, h2, h3, h4⟩ := h.ex
  exact ⟨x, r, h1, h2.mono e, h3, h4⟩⟩
theorem oks_of {ss : List Str} (n : NamesOk ss) : Tb.Oks (srt ss) := fun s hs => ok_str (n.nm s ((srt_perm ss).mem_iff.mp hs))
section
variable {K : PySem.W.Frag} {C CT : Addr} {σ : L2.St} {H : Hp} {ta tb te : TE} {ss xs ss' xs' : List Str} {g g' : List Key → Int} {m : Int} {r : TRow} {tt : TT} {P : EvP.PR} {b : Bool}
theorem eq_true {r r' : TRow} (gr : GoodR ss xs r) (gr' : GoodR ss xs r') (h : ∀ k, wk r k = wk r' k) : Tb.eqT (srt ss) (srt xs) (srt ss) (srt xs) r r' = true := by
  unfold Tb.eqT
  rw [decide_eq_true rfl, decide_eq_true rfl, same_of gr gr' h]
  rfl
theorem g_eqT (sN : NamesOk ss) (uN : NamesOk xs) (h : Gives ta σ H (tabW C ss xs g)) (k : Gives tb σ H (tabW C ss xs g')) (e : ∀ k, g k = g' k) : Gives (tOp (Own.rCmpOwn K C (spTEq K C)) ta tb) σ H (is (.bl true)) :=
  g_op h k fun x y H1 _ hx hy Q q => by
    obtain ⟨x, r, rfl, tb, gr, gw⟩ := hx.ex
    obtain ⟨y, r', rfl, tb', gr', gw'⟩ := hy.ex
    refine ⟨Tb.tbl_ins tb, Tb.tbl_ins tb', .inl ⟨x, y, _, _, _, _, r, r', rfl, tb, tb', oks_of sN, oks_of uN, oks_of sN, oks_of uN, ?_⟩⟩
    rw [eq_true gr gr' fun k => by rw [gw, gw', e]]
    exact q _ _ (Ex.refl _) rfl
theorem g_neT (sN : NamesOk ss) (uN : NamesOk xs) (h : Gives ta σ H (tabW C ss xs g)) (k : Gives tb σ H (tabW C ss xs g')) (e : ∀ k, g k = g' k) : Gives (tOp (Own.rNeOwn C (spTEq K C)) ta tb) σ H (is (.bl false)) :=
  g_op h k fun x y H1 _ hx hy Q q => by
    obtain ⟨x, r, rfl, tb, gr, gw⟩ := hx.ex
    obtain ⟨y, r', rfl, tb', gr', gw'⟩ := hy.ex
    refine ⟨Tb.tbl_ins tb, Tb.tbl_ins tb', .inl ⟨x, y, _, _, _, _, r, r', rfl, tb, tb', oks_of sN, oks_of uN, oks_of sN, oks_of uN, true, ?_, ?_⟩⟩
    · rw [eq_true gr gr' fun k => by rw [gw, gw', e]]
    · exact q _ _ (Ex.refl _) rfl
theorem g_is5 (sN : NamesOk ss) (uN : NamesOk xs) (h : Gives ta σ H (tabW C ss xs g)) (k : Gives tb σ H (plainP ss xs r)) (gr : GoodR ss xs r) (e : ∀ k, g k = wk r k) (b : ∀ k, wk r k < 10 ^ 70) : Gives (tCall (spIs5 C) [] E0 (tCons ta (tCons tb tNil))) σ H (is (.bl true)) := fun H1 e1 Q q =>
  h H1 e1 _ fun v H2 e2 hv => k H2 (e1.trans e2) _ fun u H3 e3 hu => by
    obtain ⟨x, r', rfl, t, gr', gw⟩ := hv.ex
    refine ⟨x, u, ss, xs, r, r', rfl, t.mono e3, hu, sN, uN, gr.nod, gr.key, fun t ht => ⟨gr.pos t ht, ?_⟩, ⟨look_ext gr' gr fun k => by rw [gw, e], gr'.nod, gr'.rowOk sN.nm uN.nm, Nat.le_trans (gr'.len36 sN.few uN.few) (by decide)⟩, fun H' e' => q _ _ ((e2.trans e3).trans e') rfl⟩
    have w : wk r t.1 = t.2 := by
      unfold wk
      rw [(look_mem gr.nod).mpr (show (t.1, t.2) ∈ r from ht)]
      rfl
    rw [← w]
    exact b _
theorem g_eqI {i j : Int} {b : Bool} (h : Gives ta σ H (is (.int i))) (k : Gives tb σ H (is (.int j))) (e : decide (i = j) = b) : Gives (tOp rEq ta tb) σ H (is (.bl b)) := g_op h k fun x y H1 _ ex ey Q q => by
  rw [show x = _ from ex, show y = _ from ey]
  refine ⟨rfl, q _ _ (Ex.refl _) ?_⟩
  show V.bl (decide (V.int i = V.int j)) = .bl b
  rw [← e]
  by_cases c : i = j
  · rw [c]
    simp
  · rw [decide_eq_false c, decide_eq_false fun z => c (V.int.inj z)]
theorem g_ifE (h : Tst tt σ H b) (k : b = true → Gives ta σ H P) (l : b = false → Gives tb σ H P) : Gives (tIf tt ta tb) σ H P := fun H1 e Q q => h H1 e _ fun H2 e2 => by
  cases b with
  | true => exact k rfl H2 (e.trans e2) Q fun v H3 e3 hv => q v H3 (e2.trans e3) hv
  | false => exact l rfl H2 (e.trans e2) Q fun v H3 e3 hv => q v H3 (e2.trans e3) hv
end
theorem tblT_ext {ss xs : List Str} {r r' : TRow} (h : ∀ k, wk r k = wk r' k) : tblT ss xs r = tblT ss xs r' := by
  have e : wk r = wk r' := funext h
  unfold tblT rowsT rowT rowW
  rw [e]
section
variable {K : PySem.W.Frag} {C : Addr} {σ : L2.St} {H : Hp} {ta tb te : TE} {ss xs : List Str} {g g' : List Key → Int} {r : TRow}
/-- str(table) -/
theorem g_strT (sN : NamesOk ss) (uN : NamesOk xs) (h : Gives ta σ H (tabW C ss xs g)) (e : ∀ k, g k = wk r k) (b : ∀ k, 0 ≤ g k ∧ g k < 10 ^ 64) : Gives (tCB (Own.rStrOwn C (spTStr C)) (tCons ta tNil)) σ H (is (.str (tblT (srt ss) (srt xs) r))) :=
  g_call h fun v H1 _ hv Q q => by
    obtain ⟨x, r', rfl, tb, gr, gw⟩ := hv.ex
    have s1 := sN.srt
    have s2 := uN.srt
    refine ⟨_, rfl, Tb.tbl_ins tb, x, srt ss, srt xs, r', rfl, tb, s1.nm, s2.nm, s1.few, s2.few, fun k => by rw [gw]; exact b k, fun H' e' => ⟨_, rfl, q _ _ e' ?_⟩⟩
    exact congrArg V.str (tblT_ext fun k => by rw [gw, e])
end
/-- lists of texts as data -/
theorem shaped_strsL {ss : List Str} (h : ∀ s ∈ ss, PyData.strOk s = true) : SeqAt.shaped (.list (ss.map PyData.str)) = true := by
  show (PyData.canLayAll0 (ss.map PyData.str) && decide (PyData.depthAll (ss.map PyData.str) + 1 ≤ 64)) = true
  rw [Tb.lay_strs h, Tb.depth_strs]
  rfl
theorem eqv_strsL (ss ts : List Str) : PyData.eqv (.list (ss.map PyData.str)) (.list (ts.map PyData.str)) = decide (ss = ts) := Tb.eqv_strs ss ts
end K06

set_option Elab.async false
set_option linter.all false
set_option maxRecDepth 100000
set_option maxHeartbeats 4000000
/-! Table.flat: a static method, called by the class's name; dicts of lists. -/
namespace Cm
open PySem PySem.Spec PyProof.Rows L2 EvP
/-- a dict comprehension over a walk -/
theorem dc_walk {J : It} {n : Nat} {G : Hp → Prop} {Y : Nat → Hp → V → Hp → Prop} (w : Walk J n G Y) {g : TG} {tt : TT} {tk tv : TE} {vs : List Nat} {σ : L2.St} {H1 : Hp} {D : Addr} {Qd : Hp → Prop} (Pv : Nat → Hp → Prop) (h0 : Pv 0 (upd H1 D (.dK []))) (hG : ∀ i H, i ≤ n → Pv i H → G H)
    (hs : ∀ i x H H', i < n → Pv i H → Y i H x H' → g x (wipe σ vs) H' fun σ2 H2 => wipe σ2 vs = wipe σ vs ∧ tt σ2 H2 fun b H3 => if b = true then tk σ2 H3 fun y H4 => tv σ2 H4 fun z H5 => ∃ kvs k, y = kV k ∧ H5 D = some (.dK kvs) ∧ kvs.length < sizeLine ∧ Pv (i + 1) (upd H5 D (.dK (putK kvs k z))) else Pv (i + 1) H3) (hd : ∀ H, Pv n H → Qd H) :
    ∃ W : Nat → Nat → Hp → Prop, (∃ m, W 0 m (upd H1 D (.dK []))) ∧ ∀ i m H, W i m H → (J.stop i H ∧ Qd H) ∨ (J.go i H ∧ ∃ Nx : Hp → Prop, (∀ H', Nx H' → ∃ m', m' < m ∧ W (i + 1) m' H') ∧ ∀ x H', J.yld i H x H' → g x (wipe σ vs) H' fun σ2 H2 => wipe σ2 vs = wipe σ vs ∧ tt σ2 H2 fun b H3 =>
      if b = true then tk σ2 H3 fun y H4 => tv σ2 H4 fun z H5 => ∃ kvs k, y = kV k ∧ H5 D = some (.dK kvs) ∧ kvs.length < sizeLine ∧ Nx (upd H5 D (.dK (putK kvs k z))) else Nx H3) := by
  refine ⟨fun i m H => m = n - i ∧ i ≤ n ∧ Pv i H, ⟨n, by simp, Nat.zero_le _, h0⟩, ?_⟩
  rintro i m H ⟨rfl, hi, p⟩
  have q := hG i H hi p
  by_cases lt : i < n
  · exact .inr ⟨w.goes i H lt q, Pv (i + 1), fun H' p' => ⟨n - (i + 1), by omega, rfl, lt, p'⟩, fun x H' y => hs i x H H' lt p (w.yields i H x H' lt q y)⟩
  · have e : i = n := by omega
    subst e
    exact .inl ⟨w.stops H q, hd H p⟩
section
variable {K : PySem.W.Frag} {σ : L2.St} {H : Hp} {tv : TE} {wi : TI} {vs : List Nat} {i : Nat}
theorem new_key {α : Type} {ss : List Str} {j : Nat} {n : Str} (f : Str → V) (nod : ss.Nodup) (hn : ss[j]? = some n) : valV ((ss.take j).map fun n => ((Sum.inr n : Key), f n)) (Sum.inr n) = none := by
  have no : ¬ (((ss.take j).map fun n => ((Sum.inr n : Key), f n)).any fun kv => decide (kv.1 = Sum.inr n)) = true := by
    intro y
    obtain ⟨p, hp, ep⟩ := List.any_eq_true.mp y
    obtain ⟨m, hm, rfl⟩ := List.mem_map.mp hp
    have e : m = n := Sum.inr.inj (of_decide_eq_true ep)
    rw [e] at hm
    exact K06.take_no nod hn hm
  rw [valV_any] at no
  simpa using no
/-- {n: e for n in names}, over any walk of names -/
theorem comp_dictW {ss : List Str} (f : Str → V) (hw : Walks wi σ H (ss.map V.str)) (hz : ss.length ≤ 1000) (nod : ss.Nodup) (hi : i < σ.length) (wp : ∀ x, wipe ((wipe σ vs).set i (some x)) vs = wipe σ vs)
    (he : ∀ n ∈ ss, Gives tv ((wipe σ vs).set i (some (.str n))) H (is (f n))) : Gives (tDc wi (gName i) tYes (tVar i) tv vs) σ H (dictN H (ss.map fun n => ((Sum.inr n : Key), f n))) := fun H1 e1 Q q => by
  refine hw H1 e1 _ fun J H2 e2 ⟨G, w, g⟩ D hD => ?_
  have lw : (wipe σ vs).length = σ.length := wipe_length σ vs
  refine dc_walk w (fun j H' => H' D = some (.dK ((ss.take j).map fun n => ((Sum.inr n : Key), f n))) ∧ Ex H2 H') ⟨by rw [List.take_zero]; exact upd_same, Ex.new hD⟩ (fun j H' _ ⟨_, e3⟩ => g _ e3) (fun j x H' H'' hj ⟨a1, a2⟩ y => ?_) (fun H' ⟨a1, a2⟩ => ?_)
  · obtain ⟨rfl, hx⟩ := y
    rw [List.getElem?_map] at hx
    obtain ⟨n, hn, rfl⟩ := Option.map_eq_some_iff.mp hx
    have eH := (e1.trans e2).trans a2
    refine ⟨wp _, .str n, by rw [List.getElem?_set_self (by rw [lw]; exact hi)], he n (List.mem_of_getElem? hn) _ eH _ fun v H4 e4 hv => ⟨_, Sum.inr n, rfl, e4 _ _ a1, ?_, ?_, fun b o hb => ?_⟩⟩
    · rw [List.length_map, List.length_take, sizeLine_eq]
      omega
    · rw [upd_same, putK_new _ (new_key (α := Unit) f nod hn), List.take_add_one, hn, List.map_append, show v = f n from hv]
      rfl
    · rw [upd_ne (ne_of_none hb hD)]
      exact e4 _ _ (a2 _ _ hb)
  · rw [List.length_map, List.take_length] at a1
    exact q _ _ (e2.trans a2) ⟨D, rfl, a1, (e1.trans e2).back hD⟩
end
end Cm
namespace K06
open PySem PySem.Spec PyProof.Rows L2 Cm
open DtE (TRow tents lookT)
open Tb (key2 PairK wk TblAt TblC Tab TabAt rowsO tmeth firsts wrow)
open Fk (NameV nameB srt srt_perm ents)
open EvP (Ex All2 is Gives)
/-- C.m is a static method: its record at p, its def at g -/
structure SMet (K : PySem.W.Frag) (C : Addr) (mc : Value) (m : Str) (p g : Addr) : Prop where
  at_ : PySem.W.findCls K (.ref C) mc m = some (.get (.builtin "staticmethod.__get__") (.ref p) .none (.ref C))
  rc : ∃ rest, PySem.W.recIn K p "staticmethod" = some (.ref g :: rest)
  kp : PySem.W.keepIn K (.ref g) = true
/-- C.m(..), m a static method -/
def tSM (C : Addr) (sp : Sp) (dvs : List V) (ta : TE) (t : TA) : TE := fun σ H Q => ta σ H fun x H1 => x = .ref C ∧ t σ H1 fun vs H2 => sp (vs ++ dvs) H2 Q E0
section
variable {X : Cx} {k : Nat} {C p g : Addr} {fd : FuncData} {ps : List Str} {mc : Value} {sp : Sp} {o e : Expr} {es : List Expr} {m : Str} {pos apos : Pos} {ta : TE} {t : TA} {pl : Sem Bool} {dvs : List V} {ds : List Value}
theorem pe_smG (he : PE X o ta) (r : ClX.CRead X.K C mc) (c : SMet X.K C mc m p g) (F : XG.FnG X.prog X.w X.K X.mg X.base CX0 k g fd ps sp) (len : ∀ vs H Q E, sp vs H Q E → vs.length = ps.length) (gd : X.A.guards = some []) (hr : Room k X.A) (hb : Binds X.K fd ps ds) (hd : Vals dvs ds) (ha : PA X (e :: es) t)
    (hst : starEach (e :: es) X.env = (false, eval e X.env) :: starEach es X.env := by rfl) (hpl : (backTo pos (starEach es X.env)).any (·.1) = false := by rfl)
    (ht : eval (.Call (.Attribute o m apos) (e :: es) [] pos) X.env = (do let ov ← eval o X.env; standAt apos.atName; let (f, first) ← holding [ov] (getMethod ov m pl); callWith pos f first (backTo pos (starEach (e :: es) X.env)) (backToKw pos (keywordEach [] X.env))) := by rfl) :
    PE X (.Call (.Attribute o m apos) (e :: es) [] pos) (tSM C sp dvs ta t) := by
  refine ⟨fun pins s σ H Q I h => PySem.W.methodCall_KW (pl := pl) (thn (he.run pins s σ H _ I h) fun u s1 ⟨x, H1, I1, rx, ex, q⟩ => ?_) ht⟩
  subst ex
  cases (show u = Value.ref C from rx)
  obtain ⟨rest, hp⟩ := c.rc
  refine PySem.W.method_cls I1.kIn r.ga (PySem.W.cls_bind I1.kIn r.rd c.at_ (wpAny_call (PySem.W.sm_get (s := { s1 with toks := s1.toks + 1 }) I1.kIn hp (PySem.W.handed_on rfl ?_))))
  have I2 : Inv X pins σ H1 { s1 with toks := s1.toks + 1 } := I1.tok _
  refine PySem.W.callWith_K (h₀ := X.base) I1.ok.mod.kin c.kp (thn (ha.run pos pins _ σ H1 _ I2 q) fun us s3 ⟨vs, H2, I3, rv, q2⟩ => ⟨I3.kIn, ?_⟩) hst hpl
  have rr : Vals (vs ++ dvs) (us ++ ds) := rv.append hd
  have n : (us ++ ds).length = ps.length := by rw [← rr.length]; exact len _ _ _ _ q2
  show wpAny _ _ (call (.ref g) us) _ _ _
  refine wpAny_call (codeAny_mono (F X.A X.stack s3 H2 ⟨us, []⟩ (us ++ ds) (vs ++ dvs) Q E0 gd hr I3.env0 (hb s3 us I3.kIn n) rr q2) fun r' s' z => ?_)
  cases r' with
  | error e => exact (show False from z).elim
  | ok fl => cases fl with
    | ret u => exact I3.after z
    | _ => exact (show False from z).elim
end
end K06

set_option Elab.async false
set_option linter.all false
set_option maxRecDepth 100000
set_option maxHeartbeats 4000000
/-! Table(..) of new rows; ~table. -/
namespace K06
open PySem PySem.Spec PyProof.Rows L2 Cm
open DtE (TRow tents lookT)
open Tb (key2 PairK wk TblAt TblC Tab TabAt rowsO tmeth firsts spTItem)
open Fk (NameV nameB srt srt_perm ents)
open EvP (Ex All2 is Gives)
theorem NamesOk.L {A : List Str} (n : NamesOk A) : NamesL A := ⟨n.nod, n.nm, Nat.le_trans n.few (by decide)⟩
theorem TabW.perm {C : Addr} {ss xs ts ys : List Str} {g : List Key → Int} {v : V} {H : Hp} (p : ss.Perm ts) (q : xs.Perm ys) (h : TabW C ss xs g v H) : TabW C ts ys g v H := by
  obtain ⟨x, r, h1, h2, h3, h4⟩ := h.ex
  exact ⟨x, r, h1, by rw [← Fk.srt_eq p, ← Fk.srt_eq q]; exact h2, h3.perm p q, h4⟩
theorem TabW.ext {C : Addr} {ss xs : List Str} {g g' : List Key → Int} {v : V} {H : Hp} (e : ∀ k, g k = g' k) (h : TabW C ss xs g v H) : TabW C ss xs g' v H := by
  have : g = g' := funext e
  rw [← this]
  exact h
def OutOf (A B : List Str) (g : List Key → Int) : Prop := ∀ k, (¬ ∃ a ∈ A, ∃ x ∈ B, k = key2 a x) → g k = 0
theorem TabW.out {C : Addr} {ss xs : List Str} {g : List Key → Int} {v : V} {H : Hp} (h : TabW C ss xs g v H) : OutOf ss xs g := fun k n => by
  obtain ⟨x, r, h1, h2, h3, h4⟩ := h.ex
  rw [← h4]
  exact h3.out n
theorem TabW.nn {C : Addr} {ss xs : List Str} {g : List Key → Int} {v : V} {H : Hp} (h : TabW C ss xs g v H) (k : List Key) : 0 ≤ g k := by
  obtain ⟨x, r, h1, h2, h3, h4⟩ := h.ex
  rw [← h4]
  exact h3.nn k
section
variable {K : PySem.W.Frag} {C : Addr}
/-- Table(rows, uses), the last step -/
theorem go_make {A B : List Str} {g : List Key → Int} {d u : Addr} {T : Tab} {H3 : Hp} {Q : VK} (hT : TabAt H3 d T) (eT : T.map (fun t => (t.1, t.2.2)) = A.map fun a => (a, rowG g B a)) (nod : (T.map (·.2.1)).Nodup) (h3 : Fk.SqA K H3 u (B.map V.str)) (nA : NamesOk A) (nB : NamesOk B) (nn : ∀ k, 0 ≤ g k) (out : OutOf A B g)
    (q : ∀ v H', Ex H3 H' → TabW C A B g v H' → Q v H') : ∀ x dx, H3 x = none → H3 dx = none → dx ≠ x → Tb.spTI K C [.ref x, .ref d, .ref u] (upd (upd H3 dx (.own x)) x (.ins C dx [])) (fun v H2 => v = .non ∧ Q (.ref x) H2) E0 := fun x' dx' nx ndx ne => by
  obtain ⟨to, nT, eu, ewr⟩ := mk_tab nA.L nB.L eT nod nn
  have e4 := Ex.new (o := .own x') ndx
  have nx2 : upd H3 dx' (.own x') x' = none := by
    rw [upd_ne ne.symm]
    exact nx
  have e5 := e4.trans (Ex.new (o := .ins C dx' []) nx2)
  have hx : upd (upd H3 dx' (.own x')) x' (.ins C dx' []) x' = some (.ins C dx' []) := upd_same
  generalize upd (upd H3 dx' (.own x')) x' (.ins C dx' []) = H4 at e5 hx ⊢
  have lT : T.length = A.length := by
    have := congrArg List.length nT
    rwa [List.length_map] at this
  have A6 := nA.few
  refine ⟨x', d, u, dx', T, B, rfl, hx, hT.ex e5, to, by omega, Tb.SqA.keep e5 h3, nB.nm, by have := nB.few; omega, by rw [eu, (srt_perm _).length_eq]; exact nB.few, fun H5 k5 ta => ⟨rfl, ?_⟩⟩
  rw [eu, nT, ewr] at ta
  exact q _ H5 (fun c o hc => k5 _ _ (e5 _ _ hc) (ne_of_none hc nx)) ⟨x', _, rfl, ta, good_gen nA.nod nB.nod, fun k => wk_gen nA.nod nB.nod out nn k⟩
end
def revK (g : List Key → Int) : List Key → Int := fun k => g k.reverse
theorem revK_out {A B : List Str} {g : List Key → Int} (o : OutOf A B g) : OutOf B A (revK g) := fun k h => o _ fun ⟨a, ha, x, hx, e⟩ => h ⟨x, hx, a, ha, by
  have := congrArg List.reverse e
  rw [List.reverse_reverse] at this
  exact this⟩
abbrev NI7 : List Str := ["self", "x", "a"]
theorem scInv7 : FnScope NI7 ["self"] (defScope (tmeth 14)) := ⟨rfl, rfl, rfl, by decide +kernel, rfl, by decide +kernel, by decide +kernel⟩
def spTInv (C : Addr) : Sp := fun vs H Q _ => ∃ (v : V) (ss xs : List Str) (g : List Key → Int), vs = [v] ∧ TabW C ss xs g v H ∧ NamesOk ss ∧ NamesOk xs ∧ ∀ c H', Ex H H' → TabW C xs ss (revK g) c H' → Q c H'
theorem spTInv_len {C : Addr} : ∀ vs H Q E, spTInv C vs H Q E → vs.length = (["self"] : List Str).length := fun vs H Q E h => by
  obtain ⟨v, ss, xs, g, rfl, _⟩ := h
  rfl
def scInI : Scope := { kind := ScopeKind.function, names := [(Str.ofString ".0", NameKind.local), (Str.ofString "x", NameKind.cell), (Str.ofString "self", NameKind.cell)], isGenerator := false, isCoroutine := false }
abbrev tIx7 (C : Addr) (i j l : Nat) : TE := tOp (Own.rIxOwn C (spTItem C)) (tVar i) (tTup (tCons (tVar j) (tCons (tVar l) tNil)))
section
variable {P : Program} {w : World} {K : PySem.W.Frag} {mg : Str → Option Value} {base : Heap} {C f fO fI fG : Addr} {fd fdO fdI dG : FuncData}
theorem ok_tinv (F : Fun K "__invert__" "Table.__invert__" (tmeth 14) f fd) (S : TblC K C)
    (M : Own.Mt P w K mg base C "__getitem__" 3 ["self", "at"] (spTItem C) fG dG) (MF : PySem.W.fnIn K fG = true)
    (MK : Mk K C fI) (GI : XG.FnG P w K mg base CX0 5 fI fdI ["self", "rows", "uses"] (Tb.spTI K C)) (bI : Binds K fdI ["self", "rows", "uses"] []) (gT : mg "Table" = some (.ref C)) : XG.FnG P w K mg base CX0 7 f fd ["self"] (spTInv C) := by
  have nd := scInv7.nd
  refine XG.Fun.okG F scInv7 spTInv_len fun cdv A outer sh H vs Q E gd hr h => ?_
  obtain ⟨v, ss, xs, g, rfl, tw, sN, uN, q⟩ := h
  refine ⟨_, pss_one (ps_ret (XG.pe_makeG MK GI Tb.spTI_len gd hr bI (by rfl) gT (pa_cons
      (pe_dc (own := [("x", 1)]) (g := gName 1) (tt := tYes) (tk := tVar 1) (tv := tDc (iTup K (tFld K (tVar 0) "sources")) (gName 2) tYes (tVar 2) (tIx7 C 0 2 1) [2]) rfl nd (pi_tup (pe_fld (pv 0) rfl)) (blkOk_by (N := NI7) (sc := defScope (tmeth 14)) (by decide +kernel))
        (fun _ _ _ _ _ => pg_name (i := 1) nd rfl (Or.inr rfl)) (fun _ _ _ _ _ => pts_nil) (fun _ _ _ _ _ => pv 1) (fun _ _ _ _ _ => by
          refine pe_dc (own := [("a", 2)]) (wi := iTup K (tFld K (tVar 0) "sources")) (g := gName 2) (tt := tYes) (tk := tVar 2) (tv := tIx7 C 0 2 1) rfl nd (pi_tup (pe_fld (pv 0) rfl)) (blkOk_by (N := NI7) (sc := scInI) (by decide +kernel))
            (fun _ _ _ _ _ => pg_name (i := 2) nd rfl (Or.inl rfl)) (fun _ _ _ _ _ => pts_nil) (fun _ _ _ _ _ => pv 2) (fun _ _ _ _ _ => Own.pe_ixOwn M MF (hr.mono (by decide)) (pv 0) (pe_tup (pa_cons (pv 2) (pa_cons (pv 1) pa_nil))))))
      (pa_cons (pe_fld (pv 0) rfl) pa_nil)))), ?_⟩
  obtain ⟨x, r, rfl, tb, gr, gw⟩ := tw.ex
  obtain ⟨dx, n1, n2, dw, pp, prs, h1, h2, h3, h4, h5, h6⟩ := tb.ex
  have sN' := sN.srt
  have uN' := uN.srt
  unfold tRet XG.tMakeG tCons
  dsimp only
  refine (comp_tab (K := K) (σ := [some (.ref x), none, none]) (vs := [1]) (i := 1) (rowG (revK g) (srt ss)) (fun H2 e2 Q2 k2 => ⟨_, rfl, x, C, dx, _, _, rfl, e2 _ _ h1, S.cl, S.nU, rfl, k2 _ _ (Ex.refl _) ⟨n2, rfl, e2 _ _ h3⟩⟩) (by have := uN'.few; omega) uN'.nod (by show 1 < 3; decide) (fun _ => rfl) (fun u hu H1 e1 => ?_)) H (Ex.refl H) _ fun v H1 e1 hv => ?_
  · rw [ents_rowG]
    refine Cm.comp_dict (i := 2) (fun a => V.int (revK g (key2 u a))) (fun H2 e2 Q2 k2 => ⟨_, rfl, x, C, dx, _, _, rfl, e2 _ _ (e1 _ _ h1), S.cl, S.nS, rfl, k2 _ _ (Ex.refl _) ⟨n1, rfl, e2 _ _ (e1 _ _ h2)⟩⟩) (by have := sN'.few; omega) sN'.nod (by show 2 < 3; decide) (fun _ => rfl) (fun a ha => ?_)
    have e : revK g (key2 u a) = wk r (key2 a u) := (gw (key2 a u)).symm
    rw [e]
    exact g_ixT rfl rfl rfl (tb.mono e1) (sN'.nm a ha) (uN'.nm u hu)
  obtain ⟨d, T, rfl, hT, eT, nA, _⟩ := hv.ex
  refine ⟨_, rfl, x, C, dx, _, _, rfl, e1 _ _ h1, S.cl, S.nS, rfl, ?_⟩
  have ps := (srt_perm ss).symm
  have pu := (srt_perm xs).symm
  have tw' := TabW.perm ps pu tw
  show ∀ x dx, _
  exact go_make hT eT nA (.inr (SqT.of (e1 _ _ h2))) uN' sN' (fun k => tw.nn _) (revK_out tw'.out) fun v H2 e2 t => q v H2 (e1.trans e2) (TabW.perm (srt_perm xs) (srt_perm ss) t)
end
end K06

set_option Elab.async false
set_option linter.all false
set_option maxRecDepth 100000
set_option maxHeartbeats 4000000
/-! Table(..) of any new rows. -/
namespace K06
open PySem PySem.Spec PyProof.Rows L2 Cm
open DtE (TRow tents lookT)
open Tb (key2 PairK wk TblAt TblC Tab TabAt rowsO tmeth firsts spTItem mem_worths worths_nod)
open Fk (NameV nameB srt srt_perm ents)
open EvP (Ex All2 is Gives)
/-- a row of a table to be -/
structure RowF (B : List Str) (r : Fk.Row) : Prop where
  nod : (r.map (·.1)).Nodup
  nn : ∀ e ∈ r, 0 ≤ e.2
  inB : ∀ e ∈ r, e.1 ∈ B
theorem RowF.few {B : List Str} {r : Fk.Row} (h : RowF B r) (n : NamesOk B) : r.length ≤ 6 := by
  have l := nodup_le (m := B) h.nod fun x hx => by
    obtain ⟨e, he, rfl⟩ := List.mem_map.mp hx
    exact h.inB e he
  rw [List.length_map] at l
  exact Nat.le_trans l n.few
section
variable {A B us : List Str} {f : Str → Fk.Row} {T : Tab} {g : List Key → Int}
theorem tabF_ok (nA : NamesOk A) (nB : NamesOk B) (eT : T.map (fun t => (t.1, t.2.2)) = A.map fun a => (a, f a)) (nod : (T.map (·.2.1)).Nodup) (hf : ∀ a ∈ A, RowF B (f a)) : Tb.TabOk T ∧ T.map (·.1) = A ∧ ∀ t ∈ T, t.1 ∈ A ∧ t.2.2 = f t.1 := by
  have nT : T.map (·.1) = A := by
    have := congrArg (List.map Prod.fst) eT
    rw [List.map_map, List.map_map] at this
    exact this.trans (List.map_id _)
  have mT : ∀ t ∈ T, t.1 ∈ A ∧ t.2.2 = f t.1 := fun t ht => by
    have : (t.1, t.2.2) ∈ A.map fun n => (n, f n) := by
      rw [← eT]
      exact List.mem_map.mpr ⟨t, ht, rfl⟩
    obtain ⟨n, hn, e⟩ := List.mem_map.mp this
    obtain ⟨f1, f2⟩ := Prod.mk.inj e
    exact ⟨by rw [← f1]; exact hn, by rw [← f1, ← f2]⟩
  refine ⟨⟨by rw [nT]; exact nA.nod, nod, fun t ht => nA.nm _ (mT t ht).1, fun t ht => ?_, ?_⟩, nT, mT⟩
  · obtain ⟨ha, e⟩ := mT t ht
    have r := hf _ ha
    rw [e]
    exact ⟨r.nod, fun e he => ⟨nB.nm _ (r.inB e he), r.nn e he⟩, Nat.le_trans (r.few nB) (by decide)⟩
  · have := congrArg List.length nT
    rw [List.length_map] at this
    have := nA.few
    omega
theorem mem_row {t : Str × Addr × Fk.Row} (ht : t ∈ T) {e : Str × Int} (he : e ∈ t.2.2) (p : 0 < e.2) : (key2 t.1 e.1, e.2) ∈ Tb.worths T :=
  List.mem_flatMap.mpr ⟨t, ht, List.mem_map.mpr ⟨e, List.mem_filter.mpr ⟨he, decide_eq_true p⟩, rfl⟩⟩
/-- its worths -/
theorem tabF_wk (nA : NamesOk A) (nB : NamesOk B) (eT : T.map (fun t => (t.1, t.2.2)) = A.map fun a => (a, f a)) (nod : (T.map (·.2.1)).Nodup) (hf : ∀ a ∈ A, RowF B (f a)) (hg : ∀ a ∈ A, ∀ e ∈ f a, g (key2 a e.1) = e.2) (out : ∀ k, (¬ ∃ a ∈ A, ∃ e ∈ f a, k = key2 a e.1) → g k = 0) :
    GoodR A B (Tb.worths T) ∧ ∀ k, wk (Tb.worths T) k = g k := by
  obtain ⟨ok, nT, mT⟩ := tabF_ok nA nB eT nod hf
  have wn := worths_nod ok
  refine ⟨⟨wn, fun z hz => ?_, fun z hz => ?_⟩, fun k => ?_⟩
  · obtain ⟨t, ht, c, hc, p, rfl⟩ := mem_worths hz
    obtain ⟨ha, e⟩ := mT t ht
    rw [e] at hc
    exact ⟨t.1, ha, c.1, (hf _ ha).inB c hc, rfl⟩
  · obtain ⟨t, ht, c, hc, p, rfl⟩ := mem_worths hz
    exact p
  · by_cases c : ∃ a ∈ A, ∃ e ∈ f a, k = key2 a e.1
    · obtain ⟨a, ha, e, he, rfl⟩ := c
      rw [hg a ha e he]
      obtain ⟨t, ht, rfl⟩ : ∃ t ∈ T, t.1 = a := by
        rw [← nT] at ha
        exact List.mem_map.mp ha
      have he' : e ∈ t.2.2 := by
        rw [(mT t ht).2]
        exact he
      by_cases p : 0 < e.2
      · have := (look_mem wn).mpr (mem_row ht he' p)
        unfold wk
        rw [this]
        rfl
      · have e0 : e.2 = 0 := by
          have := (hf _ ha).nn e he
          omega
        rw [e0]
        unfold wk
        cases q : lookT (Tb.worths T) (key2 t.1 e.1) with
        | none => rfl
        | some n =>
          exfalso
          obtain ⟨t2, ht2, c2, hc2, p2, ee⟩ := mem_worths ((look_mem wn).mp q)
          obtain ⟨ek, en⟩ := Prod.mk.inj ee
          obtain ⟨e1, e2⟩ := Tb.key2_inj ek
          obtain ⟨ha2, er2⟩ := mT t2 ht2
          have h1 := hg _ ha2 c2 (by rw [← er2]; exact hc2)
          have h2 := hg _ ha e he
          rw [← e1, ← e2] at h1
          rw [h1] at h2
          omega
    · rw [out k c]
      unfold wk
      cases q : lookT (Tb.worths T) k with
      | none => rfl
      | some n =>
        exfalso
        obtain ⟨t2, ht2, c2, hc2, p2, ee⟩ := mem_worths ((look_mem wn).mp q)
        obtain ⟨ha2, er2⟩ := mT t2 ht2
        exact c ⟨t2.1, ha2, c2, by rw [← er2]; exact hc2, (Prod.mk.inj ee).1⟩
theorem tabF_uses (nA : NamesOk A) (nB : NamesOk B) (eT : T.map (fun t => (t.1, t.2.2)) = A.map fun a => (a, f a)) (nod : (T.map (·.2.1)).Nodup) (hf : ∀ a ∈ A, RowF B (f a)) (hB : ∀ x, x ∈ B ↔ x ∈ us ∨ ∃ a ∈ A, ∃ e ∈ f a, e.1 = x) : Tb.usesOf us T = srt B := by
  obtain ⟨ok, nT, mT⟩ := tabF_ok nA nB eT nod hf
  unfold Tb.usesOf
  refine Fk.srt_eq ((List.perm_ext_iff_of_nodup (firsts_nodup _) nB.nod).mpr fun x => ?_)
  rw [mem_firsts, List.mem_append, hB]
  refine or_congr_right ⟨fun h => ?_, fun ⟨a, ha, e, he, ex⟩ => ?_⟩
  · unfold Tb.namesOf at h
    obtain ⟨t, ht, hx⟩ := List.mem_flatMap.mp h
    obtain ⟨e, he, ex⟩ := List.mem_map.mp hx
    obtain ⟨ha, er⟩ := mT t ht
    exact ⟨t.1, ha, e, by rw [← er]; exact he, ex⟩
  · obtain ⟨t, ht, rfl⟩ : ∃ t ∈ T, t.1 = a := by
      rw [← nT] at ha
      exact List.mem_map.mp ha
    unfold Tb.namesOf
    exact List.mem_flatMap.mpr ⟨t, ht, List.mem_map.mpr ⟨e, by rw [(mT t ht).2]; exact he, ex⟩⟩
/-- Table(rows, uses), the last step -/
theorem go_makeF {K : PySem.W.Frag} {C d u : Addr} {H3 : Hp} {Q : VK} (hT : TabAt H3 d T) (eT : T.map (fun t => (t.1, t.2.2)) = A.map fun a => (a, f a)) (nod : (T.map (·.2.1)).Nodup) (h3 : Fk.SqA K H3 u (us.map V.str)) (l3 : us.length ≤ 100) (n3 : ∀ n ∈ us, NameV (.str n)) (nA : NamesOk A) (nB : NamesOk B) (hf : ∀ a ∈ A, RowF B (f a))
    (hB : ∀ x, x ∈ B ↔ x ∈ us ∨ ∃ a ∈ A, ∃ e ∈ f a, e.1 = x) (hg : ∀ a ∈ A, ∀ e ∈ f a, g (key2 a e.1) = e.2) (out : ∀ k, (¬ ∃ a ∈ A, ∃ e ∈ f a, k = key2 a e.1) → g k = 0)
    (q : ∀ v H', Ex H3 H' → TabW C A B g v H' → Q v H') : ∀ x dx, H3 x = none → H3 dx = none → dx ≠ x → Tb.spTI K C [.ref x, .ref d, .ref u] (upd (upd H3 dx (.own x)) x (.ins C dx [])) (fun v H2 => v = .non ∧ Q (.ref x) H2) E0 := fun x' dx' nx ndx ne => by
  obtain ⟨to, nT, mT⟩ := tabF_ok nA nB eT nod hf
  obtain ⟨gr, gw⟩ := tabF_wk nA nB eT nod hf hg out
  have eu := tabF_uses nA nB eT nod hf hB
  have e4 := Ex.new (o := .own x') ndx
  have nx2 : upd H3 dx' (.own x') x' = none := by
    rw [upd_ne ne.symm]
    exact nx
  have e5 := e4.trans (Ex.new (o := .ins C dx' []) nx2)
  have hx : upd (upd H3 dx' (.own x')) x' (.ins C dx' []) x' = some (.ins C dx' []) := upd_same
  generalize upd (upd H3 dx' (.own x')) x' (.ins C dx' []) = H4 at e5 hx ⊢
  have lT : T.length = A.length := by
    have := congrArg List.length nT
    rwa [List.length_map] at this
  have A6 := nA.few
  refine ⟨x', d, u, dx', T, us, rfl, hx, hT.ex e5, to, by omega, Tb.SqA.keep e5 h3, n3, l3, by rw [eu, (srt_perm _).length_eq]; exact nB.few, fun H5 k5 ta => ⟨rfl, ?_⟩⟩
  rw [eu, nT] at ta
  exact q _ H5 (fun c o hc => k5 _ _ (e5 _ _ hc) (ne_of_none hc nx)) ⟨x', _, rfl, ta, gr, gw⟩
end
end K06

set_option Elab.async false
set_option linter.all false
set_option maxRecDepth 100000
set_option maxHeartbeats 4000000
/-! table.with_worth(source, use, worth). -/
namespace K06
open PySem PySem.Spec PyProof.Rows L2 Cm
open DtE (TRow tents lookT)
open Tb (key2 PairK wk TblAt TblC Tab TabAt rowsO tmeth firsts spTItem)
open Fk (NameV nameB srt srt_perm ents spSeq)
open EvP (Ex All2 is Gives)
/-- a name more -/
def addN (ss : List Str) (s : Str) : List Str := if s ∈ ss then ss else ss ++ [s]
theorem mem_addN {ss : List Str} {s x : Str} : x ∈ addN ss s ↔ x ∈ ss ∨ x = s := by
  unfold addN
  by_cases c : s ∈ ss
  · rw [if_pos c]
    exact ⟨.inl, fun h => h.elim id fun e => by rw [e]; exact c⟩
  · rw [if_neg c, List.mem_append, List.mem_singleton]
theorem addN_nod {ss : List Str} {s : Str} (n : ss.Nodup) : (addN ss s).Nodup := by
  unfold addN
  by_cases c : s ∈ ss
  · rw [if_pos c]
    exact n
  · rw [if_neg c, List.nodup_append]
    refine ⟨n, by simp, fun x hx y hy e => c ?_⟩
    rw [← List.mem_singleton.mp hy, ← e]
    exact hx
theorem addN_perm {ss ts : List Str} {s : Str} (p : ss.Perm ts) : (addN ss s).Perm (addN ts s) := by
  unfold addN
  by_cases c : s ∈ ss
  · rw [if_pos c, if_pos (p.mem_iff.mp c)]
    exact p
  · rw [if_neg c, if_neg fun z => c (p.mem_iff.mpr z)]
    exact p.append_right _
/-- row[u] = n -/
def putR (r : Fk.Row) (u : Str) (n : Int) : Fk.Row := if u ∈ r.map (·.1) then r.map (fun e => if e.1 = u then (e.1, n) else e) else r ++ [(u, n)]
theorem putR_ents (r : Fk.Row) (u : Str) (n : Int) : putK (ents r) (Sum.inr u : Key) (.int n) = ents (putR r u n) := by
  have a : ((ents r).any fun kv => decide (kv.1 = (Sum.inr u : Key))) = decide (u ∈ r.map (·.1)) := by
    rw [Bool.eq_iff_iff, List.any_eq_true, decide_eq_true_iff]
    unfold ents
    constructor
    · rintro ⟨kv, hk, e⟩
      obtain ⟨c, hc, rfl⟩ := List.mem_map.mp hk
      exact List.mem_map.mpr ⟨c, hc, Sum.inr.inj (of_decide_eq_true e)⟩
    · intro h
      obtain ⟨c, hc, e⟩ := List.mem_map.mp h
      exact ⟨_, List.mem_map.mpr ⟨c, hc, rfl⟩, decide_eq_true (congrArg Sum.inr e)⟩
  unfold putK putR
  rw [a]
  by_cases c : u ∈ r.map (·.1)
  · rw [decide_eq_true c, if_pos rfl, if_pos c]
    unfold ents
    rw [List.map_map, List.map_map]
    refine List.map_congr_left fun e _ => ?_
    show (if (Sum.inr e.1 : Key) = Sum.inr u then ((Sum.inr e.1 : Key), V.int n) else (Sum.inr e.1, V.int e.2)) = _
    by_cases q : e.1 = u
    · rw [if_pos (congrArg Sum.inr q)]
      show _ = ((Sum.inr (if e.1 = u then (e.1, n) else e).1 : Key), V.int (if e.1 = u then (e.1, n) else e).2)
      rw [if_pos q]
    · rw [if_neg fun z => q (Sum.inr.inj z)]
      show _ = ((Sum.inr (if e.1 = u then (e.1, n) else e).1 : Key), V.int (if e.1 = u then (e.1, n) else e).2)
      rw [if_neg q]
  · rw [decide_eq_false c, if_neg Bool.false_ne_true, if_neg c]
    unfold ents
    rw [List.map_append]
    rfl
theorem putR_mem {r : Fk.Row} {u : Str} {n : Int} (nod : (r.map (·.1)).Nodup) {e : Str × Int} : e ∈ putR r u n ↔ (e ∈ r ∧ e.1 ≠ u) ∨ e = (u, n) := by
  unfold putR
  by_cases c : u ∈ r.map (·.1)
  · rw [if_pos c]
    constructor
    · intro h
      obtain ⟨x, hx, rfl⟩ := List.mem_map.mp h
      by_cases q : x.1 = u
      · rw [if_pos q, q]
        exact .inr rfl
      · rw [if_neg q]
        exact .inl ⟨hx, q⟩
    · rintro (⟨h, q⟩ | rfl)
      · exact List.mem_map.mpr ⟨e, h, if_neg q⟩
      · obtain ⟨x, hx, q⟩ := List.mem_map.mp c
        exact List.mem_map.mpr ⟨x, hx, by rw [if_pos q, q]⟩
  · rw [if_neg c, List.mem_append, List.mem_singleton]
    exact or_congr_left ⟨fun h => ⟨h, fun q => c (List.mem_map.mpr ⟨e, h, q⟩)⟩, fun h => h.1⟩
theorem putR_keys (r : Fk.Row) (u : Str) (n : Int) : (putR r u n).map (·.1) = addN (r.map (·.1)) u := by
  unfold putR addN
  by_cases c : u ∈ r.map (·.1)
  · rw [if_pos c, if_pos c, List.map_map]
    refine List.map_congr_left fun e _ => ?_
    show (if e.1 = u then (e.1, n) else e).1 = e.1
    split <;> rfl
  · rw [if_neg c, if_neg c, List.map_append]
    rfl
/-- another worth of one pair -/
def putG (g : List Key → Int) (k : List Key) (n : Int) : List Key → Int := fun j => if j = k then n else g j
abbrev sWth : Stmt := tmeth 20
abbrev NW7 : List Str := ["self", "source", "use", "worth", "rows", "a", "x"]
theorem scWth : FnScope NW7 ["self", "source", "use", "worth"] (defScope sWth) := ⟨rfl, rfl, rfl, by decide +kernel, rfl, by decide +kernel, by decide +kernel⟩
def spTWth (C : Addr) : Sp := fun vs H Q _ => ∃ (v : V) (ss xs : List Str) (g : List Key → Int) (so us : Str) (n : Int), vs = [v, .str so, .str us, .int n] ∧ TabW C ss xs g v H ∧ NamesOk ss ∧ NamesOk xs ∧ NamesOk (addN ss so) ∧ NamesOk (addN xs us) ∧ 0 ≤ n ∧
  ∀ c H', Ex H H' → TabW C (addN ss so) (addN xs us) (putG g (key2 so us) n) c H' → Q c H'
theorem spTWth_len {C : Addr} : ∀ vs H Q E, spTWth C vs H Q E → vs.length = (["self", "source", "use", "worth"] : List Str).length := fun vs H Q E h => by
  obtain ⟨v, ss, xs, g, so, us, n, rfl, _⟩ := h
  rfl
def scInW : Scope := { kind := ScopeKind.function, names := [(Str.ofString ".0", NameKind.local), (Str.ofString "a", NameKind.cell), (Str.ofString "self", NameKind.cell)], isGenerator := false, isCoroutine := false }
/-- the rows behind it -/
def rowW7 (g : List Key → Int) (ss xs : List Str) (so us : Str) (n : Int) (a : Str) : Fk.Row := if a = so then putR (if a ∈ ss then rowG g xs a else []) us n else if a ∈ ss then rowG g xs a else []
section
variable {g : List Key → Int} {ss xs : List Str} {so us : Str} {n : Int}
theorem base_nod (nX : xs.Nodup) (a : Str) : ((if a ∈ ss then rowG g xs a else []).map (·.1)).Nodup := by
  split
  · rw [rowG_keys]
    exact nX
  · exact List.nodup_nil
theorem base_mem {a : Str} {e : Str × Int} : e ∈ (if a ∈ ss then rowG g xs a else []) ↔ a ∈ ss ∧ e.1 ∈ xs ∧ e.2 = g (key2 a e.1) := by
  by_cases c : a ∈ ss
  · rw [if_pos c]
    unfold rowG
    constructor
    · intro h
      obtain ⟨x, hx, rfl⟩ := List.mem_map.mp h
      exact ⟨c, hx, rfl⟩
    · rintro ⟨_, h, q⟩
      exact List.mem_map.mpr ⟨e.1, h, by rw [← q]⟩
  · rw [if_neg c]
    exact ⟨fun h => absurd h List.not_mem_nil, fun h => absurd h.1 c⟩
theorem rowW7_mem (nX : xs.Nodup) {a : Str} {e : Str × Int} : e ∈ rowW7 g ss xs so us n a ↔ (a = so ∧ e = (us, n)) ∨ (a ∈ ss ∧ e.1 ∈ xs ∧ e.2 = g (key2 a e.1) ∧ ¬ (a = so ∧ e.1 = us)) := by
  unfold rowW7
  by_cases c : a = so
  · rw [if_pos c, putR_mem (base_nod nX a), base_mem]
    constructor
    · rintro (⟨⟨h1, h2, h3⟩, h4⟩ | h)
      · exact .inr ⟨h1, h2, h3, fun z => h4 z.2⟩
      · exact .inl ⟨c, h⟩
    · rintro (⟨_, h⟩ | ⟨h1, h2, h3, h4⟩)
      · exact .inr h
      · exact .inl ⟨⟨h1, h2, h3⟩, fun z => h4 ⟨c, z⟩⟩
  · rw [if_neg c, base_mem]
    constructor
    · rintro ⟨h1, h2, h3⟩
      exact .inr ⟨h1, h2, h3, fun z => c z.1⟩
    · rintro (⟨h, _⟩ | ⟨h1, h2, h3, h4⟩)
      · exact absurd h c
      · exact ⟨h1, h2, h3⟩
theorem rowW7_ok (nX : xs.Nodup) (nn : ∀ k, 0 ≤ g k) (n0 : 0 ≤ n) (a : Str) : RowF (addN xs us) (rowW7 g ss xs so us n a) := by
  refine ⟨?_, fun e he => ?_, fun e he => ?_⟩
  · unfold rowW7
    split
    · rw [putR_keys]
      exact addN_nod (base_nod nX a)
    · exact base_nod nX a
  · rcases (rowW7_mem nX).mp he with ⟨_, rfl⟩ | ⟨_, _, q, _⟩
    · exact n0
    · rw [q]
      exact nn _
  · rcases (rowW7_mem nX).mp he with ⟨_, rfl⟩ | ⟨_, h, _, _⟩
    · exact mem_addN.mpr (.inr rfl)
    · exact mem_addN.mpr (.inl h)
theorem rowW7_val (nX : xs.Nodup) (a : Str) : ∀ e ∈ rowW7 g ss xs so us n a, putG g (key2 so us) n (key2 a e.1) = e.2 := fun e he => by
  unfold putG
  rcases (rowW7_mem nX).mp he with ⟨h, rfl⟩ | ⟨_, _, q, k⟩
  · rw [h, if_pos rfl]
  · rw [if_neg fun z => k (by obtain ⟨z1, z2⟩ := Tb.key2_inj z; exact ⟨z1, z2⟩), q]
theorem rowW7_out (nX : xs.Nodup) (out : OutOf ss xs g) : ∀ k, (¬ ∃ a ∈ addN ss so, ∃ e ∈ rowW7 g ss xs so us n a, k = key2 a e.1) → putG g (key2 so us) n k = 0 := fun k h => by
  unfold putG
  by_cases c : k = key2 so us
  · exact absurd ⟨so, mem_addN.mpr (.inr rfl), (us, n), (rowW7_mem nX).mpr (.inl ⟨rfl, rfl⟩), c⟩ h
  · rw [if_neg c]
    refine out k fun ⟨a, ha, x, hx, e⟩ => h ⟨a, mem_addN.mpr (.inl ha), (x, g (key2 a x)), (rowW7_mem nX).mpr (.inr ⟨ha, hx, rfl, fun z => c ?_⟩), e⟩
    obtain ⟨z1, z2⟩ := z
    rw [e, z1, show x = us from z2]
theorem rowW7_uses (nX : xs.Nodup) (x : Str) : x ∈ addN xs us ↔ x ∈ xs ∨ ∃ a ∈ addN ss so, ∃ e ∈ rowW7 g ss xs so us n a, e.1 = x := by
  rw [mem_addN]
  constructor
  · rintro (h | rfl)
    · exact .inl h
    · exact .inr ⟨so, mem_addN.mpr (.inr rfl), (x, n), (rowW7_mem nX).mpr (.inl ⟨rfl, rfl⟩), rfl⟩
  · rintro (h | ⟨a, ha, e, he, rfl⟩)
    · exact .inl h
    · rcases (rowW7_mem nX).mp he with ⟨_, rfl⟩ | ⟨_, h, _, _⟩
      · exact .inr rfl
      · exact .inl h
end
end K06

set_option Elab.async false
set_option linter.all false
set_option maxRecDepth 100000
set_option maxHeartbeats 4000000
/-! table.with_worth(source, use, worth): the def. -/
namespace L2
open PySem PySem.Spec PyProof.Rows
section
variable {X : Cx}
/-- name = {..} on one line, the name a local -/
theorem ps_setDc {i : Nat} {y : Str} {py : Pos} {kx vx tg iter : Expr} {ifs : List Expr} {scope : Scope} {own : List (Str × Nat)} {pos spos : Pos} {wi : TI} {g : TG} {tt : TT} {tk tv : TE} (hc : X.calm = true) (hN : X.N.Nodup) (hy : X.N[i]? = some y) (hyl : X.env.scope.names.lookup y = some .local)
    (hsw : swapsWith (.DictComp kx vx [⟨tg, iter, ifs, 0⟩] scope pos) (some (.Name y py)) spos.line X.env = pure true) (hi : PI X tg iter wi) (ok : BlkOk X.N X.env.scope scope own)
    (hg : ∀ (s : Shared) (H : Hp) (C : Addr) (cl : List (Str × Addr)) (fp : List Addr), PG (X.blk s H scope (compEnvC scope cl C X.env) fp) tg g) (ht : ∀ (s : Shared) (H : Hp) (C : Addr) (cl : List (Str × Addr)) (fp : List Addr), PTs (X.blk s H scope (compEnvC scope cl C X.env) fp) ifs tt)
    (hk : ∀ (s : Shared) (H : Hp) (C : Addr) (cl : List (Str × Addr)) (fp : List Addr), PE (X.blk s H scope (compEnvC scope cl C X.env) fp) kx tk)
    (he : ∀ (s : Shared) (H : Hp) (C : Addr) (cl : List (Str × Addr)) (fp : List Addr), PE (X.blk s H scope (compEnvC scope cl C X.env) fp) vx tv) (hs : ∀ x, foldedSetIterable iter X.env x = pure x := by intro _; rfl) :
    PS X (.Assign [.Name y py] (.DictComp kx vx [⟨tg, iter, ifs, 0⟩] scope pos) spos) (tAsg (tDc wi g tt tk tv (own.map (·.2))) (gName i)) := by
  refine ⟨fun pins s σ H D I h => ?_⟩
  rw [exec_Assign_Name_used _ _ _ _ hsw]
  refine wpAny_bind (wpAny_standAt (wpAny_bind ?_))
  show wpAny _ X.A (do let _ ← comprehension (.DictComp kx vx [⟨tg, iter, ifs, 0⟩] scope pos) scope X.env (firstIterPos [⟨tg, iter, ifs, 0⟩] pos) newDict false (eval iter X.env) (some (assign (.Name y py) X.env))) _ _ s
  have h : tDc wi g tt tk tv (own.map (·.2)) σ H (fun x H1 => gName i x σ H1 D.nx) := h
  refine wpAny_bind (thn (dc_core (Qf := fun _ s' => SP X pins D .next s') hc hN I hi ok hg ht hk he hs h fun L C s' m H' I' q hn f => ?_) fun _ s' hq => wpAny_pure (wpAny_pure hq))
  show wpAny _ _ (assign (.Name y py) X.env (.ref L)) _ _ _
  refine wpAny_assign_Name (store_ok2 (v := V.ref L) I' hN hy (.inl hyl) rfl (fun s2 I2 ⟨a, sb, ha⟩ => ?_) (.inr hyl))
  obtain ⟨f0, f1, f2, f3, f4, f5⟩ := f
  have haC : C ≠ a := by
    rcases ha with z | z
    · rw [z]; exact f1
    · exact fun e => f4 y a z e.symm
  refine ⟨m, hn.sameBut sb haC, fun h3 sb3 => ?_⟩
  exact ⟨_, H', I2.turned (t' := s2.toks) (fun b o hb e => (sb3.2 b hb).trans e) f0 f1 f3 f4 f5, q⟩
end
end L2
namespace K06
open PySem PySem.Spec PyProof.Rows L2 Cm
open DtE (TRow tents lookT)
open Tb (key2 PairK wk TblAt TblC Tab TabAt rowsO tmeth firsts spTItem)
open Fk (NameV nameB srt srt_perm ents spSeq)
open EvP (Ex All2 is Gives)
/-- a new dict of new rows, all of them new -/
structure TabNewR (H0 : Hp) (B : List (Str × Fk.Row)) (v : V) (H : Hp) : Prop where
  ex : ∃ (d : Addr) (T : Tab), v = .ref d ∧ TabAt H d T ∧ T.map (fun t : Str × Addr × Fk.Row => (t.1, t.2.2)) = B ∧ (T.map (fun t : Str × Addr × Fk.Row => t.2.1)).Nodup ∧ H0 d = none ∧ ∀ t ∈ T, H0 t.2.1 = none ∧ t.2.1 ≠ d
def tabNR (H0 : Hp) (B : List (Str × Fk.Row)) : EvP.PR := ⟨TabNewR H0 B, fun _ _ _ e h => by
  obtain ⟨d, T, h1, h2, h3, h4, h5, h6⟩ := h.ex
  exact ⟨d, T, h1, ⟨e _ _ h2.at_, fun t ht => e _ _ (h2.row t ht)⟩, h3, h4, h5, h6⟩⟩
section
variable {K : PySem.W.Frag} {σ : L2.St} {H : Hp} {tl tv : TE} {vs : List Nat} {i : Nat}
theorem comp_tabR {ss : List Str} (f : Str → Fk.Row) {wi : TI} (hw : Walks wi σ H (ss.map V.str)) (hz : ss.length ≤ 1000) (nod : ss.Nodup) (hi : i < σ.length) (wp : ∀ x, wipe ((wipe σ vs).set i (some x)) vs = wipe σ vs)
    (he : ∀ n ∈ ss, ∀ H1, Ex H H1 → Gives tv ((wipe σ vs).set i (some (.str n))) H1 (dictN H1 (ents (f n)))) : Gives (tDc wi (gName i) tYes (tVar i) tv vs) σ H (tabNR H (ss.map fun n => (n, f n))) := fun H1 e1 Q q => by
  refine hw H1 e1 _ fun J H2 e2 ⟨G, w, g⟩ D hD => ?_
  have lw : (wipe σ vs).length = σ.length := wipe_length σ vs
  rw [List.length_map] at w
  refine dc_walk w (fun j H' => ∃ T : Tab, H' D = some (.dK (T.map fun t => (Sum.inr t.1, V.ref t.2.1))) ∧ T.map (fun t => (t.1, t.2.2)) = (ss.take j).map (fun n => (n, f n)) ∧ (T.map (·.2.1)).Nodup ∧ (∀ t ∈ T, H' t.2.1 = some (.dK (ents t.2.2)) ∧ t.2.1 ≠ D ∧ H2 t.2.1 = none) ∧ Ex H2 H')
    ⟨[], upd_same, by rw [List.take_zero]; rfl, List.nodup_nil, (fun t ht => nomatch ht), Ex.new hD⟩ (fun j H' _ ⟨_, _, _, _, _, e3⟩ => g _ e3) (fun j x H' H'' hj ⟨T, a1, a2, a3, a4, a5⟩ yy => ?_) (fun H' ⟨T, a1, a2, a3, a4, a5⟩ => ?_)
  · obtain ⟨rfl, hx⟩ := yy
    rw [List.getElem?_map] at hx
    obtain ⟨n, hn, rfl⟩ := Option.map_eq_some_iff.mp hx
    have eH := (e1.trans e2).trans a5
    have lT : T.length = (ss.take j).length := by
      have := congrArg List.length a2
      rwa [List.length_map, List.length_map] at this
    refine ⟨wp _, .str n, by rw [List.getElem?_set_self (by rw [lw]; exact hi)], he n (List.mem_of_getElem? hn) _ eH _ (Ex.refl _) _ fun v H4 e4 hv => ?_⟩
    obtain ⟨ra, rfl, hra, fra⟩ := hv
    have nD : ra ≠ D := fun z => by
      rw [z, a1] at fra
      cases fra
    refine ⟨_, Sum.inr n, rfl, e4 _ _ a1, ?_, T ++ [(n, ra, f n)], ?_, ?_, ?_, fun t ht => ?_, fun b o hb => ?_⟩
    · rw [List.length_map, lT, List.length_take, sizeLine_eq]
      omega
    · have new : valV (T.map fun t => ((Sum.inr t.1 : Key), V.ref t.2.1)) (Sum.inr n) = none := by
        have no : ¬ ((T.map fun t => ((Sum.inr t.1 : Key), V.ref t.2.1)).any fun kv => decide (kv.1 = Sum.inr n)) = true := by
          intro y
          obtain ⟨p, hp, ep⟩ := List.any_eq_true.mp y
          obtain ⟨m, hm, rfl⟩ := List.mem_map.mp hp
          have e : m.1 = n := Sum.inr.inj (of_decide_eq_true ep)
          have mm : (m.1, m.2.2) ∈ (ss.take j).map fun n => (n, f n) := by
            rw [← a2]
            exact List.mem_map.mpr ⟨m, hm, rfl⟩
          obtain ⟨z, hz2, ez⟩ := List.mem_map.mp mm
          have ez1 : z = n := (Prod.mk.inj ez).1.trans e
          rw [ez1] at hz2
          exact take_no nod hn hz2
        rw [valV_any] at no
        simpa using no
      rw [upd_same, putK_new _ new, List.map_append]
      rfl
    · rw [List.map_append, a2, List.take_add_one, hn, List.map_append]
      rfl
    · rw [List.map_append, List.nodup_append]
      refine ⟨a3, List.nodup_cons.mpr ⟨List.not_mem_nil, List.nodup_nil⟩, fun k hk k' hk' e => ?_⟩
      obtain ⟨t, ht, rfl⟩ := List.mem_map.mp hk
      obtain rfl := List.mem_singleton.mp hk'
      have := (a4 t ht).1
      rw [e, fra] at this
      cases this
    · rcases List.mem_append.mp ht with ht | ht
      · exact ⟨by rw [upd_ne (a4 t ht).2.1]; exact e4 _ _ (a4 t ht).1, (a4 t ht).2⟩
      · obtain rfl := List.mem_singleton.mp ht
        exact ⟨by rw [upd_ne nD]; exact hra, nD, a5.back fra⟩
    · rw [upd_ne (ne_of_none hb hD)]
      exact e4 _ _ (a5 _ _ hb)
  · rw [List.take_length] at a2
    exact q _ _ (e2.trans a5) ⟨D, T, rfl, ⟨a1, fun t ht => (a4 t ht).1⟩, a2, a3, (e1.trans e2).back hD, fun t ht => ⟨(e1.trans e2).back (a4 t ht).2.2, (a4 t ht).2.1⟩⟩
end
theorem valV_row {T : Tab} (nod : (T.map (·.1)).Nodup) {t : Str × Addr × Fk.Row} (ht : t ∈ T) : valV (T.map fun t => ((Sum.inr t.1 : Key), V.ref t.2.1)) (Sum.inr t.1) = some (.ref t.2.1) := by
  induction T with
  | nil => cases ht
  | cons z T ih =>
    rw [List.map_cons, List.nodup_cons] at nod
    rw [List.map_cons]
    unfold valV at ih ⊢
    rw [List.find?_cons]
    rcases List.mem_cons.mp ht with rfl | ht
    · rw [decide_eq_true rfl]
      rfl
    · have ne : ¬ ((Sum.inr z.1 : Key) = Sum.inr t.1) := fun e => nod.1 (List.mem_map.mpr ⟨t, ht, (Sum.inr.inj e).symm⟩)
      rw [decide_eq_false ne]
      exact ih nod.2 ht
theorem valV_norow {T : Tab} {s : Str} (h : s ∉ T.map (·.1)) : valV (T.map fun t => ((Sum.inr t.1 : Key), V.ref t.2.1)) (Sum.inr s) = none := by
  have no : ¬ ((T.map fun t => ((Sum.inr t.1 : Key), V.ref t.2.1)).any fun kv => decide (kv.1 = Sum.inr s)) = true := by
    intro y
    obtain ⟨p, hp, ep⟩ := List.any_eq_true.mp y
    obtain ⟨m, hm, rfl⟩ := List.mem_map.mp hp
    exact h (List.mem_map.mpr ⟨m, hm, Sum.inr.inj (of_decide_eq_true ep)⟩)
  rw [valV_any] at no
  simpa using no
section
variable {P : Program} {w : World} {K : PySem.W.Frag} {mg : Str → Option Value} {base : Heap} {C f fN fA fI fG : Addr} {fd fdN fdA fdI dG : FuncData}
theorem ok_twth (F : Fun K "with_worth" "Table.with_worth" sWth f fd) (S : TblC K C)
    (GN : FnOk P w K mg base CX0 2 fN fdN ["values"] (spSeq K NameV)) (bN : Binds K fdN ["values"] []) (gN : mg "check_names" = some (.ref fN)) (kN : PySem.W.keepIn K (.ref fN) = true)
    (GA : FnOk P w K mg base CX0 2 fA fdA ["value"] (Fk.spAmount K)) (bA : Binds K fdA ["value"] []) (gA : mg "is_amount" = some (.ref fA)) (kA : PySem.W.keepIn K (.ref fA) = true)
    (M : Own.Mt P w K mg base C "__getitem__" 3 ["self", "at"] (spTItem C) fG dG) (MF : PySem.W.fnIn K fG = true)
    (MK : Mk K C fI) (GI : XG.FnG P w K mg base CX0 5 fI fdI ["self", "rows", "uses"] (Tb.spTI K C)) (bI : Binds K fdI ["self", "rows", "uses"] []) (gT : mg "Table" = some (.ref C)) : XG.FnG P w K mg base CX0 7 f fd ["self", "source", "use", "worth"] (spTWth C) := by
  have nd := scWth.nd
  refine XG.Fun.okG F scWth spTWth_len fun cdv A outer sh H vs Q E gd hr h => ?_
  obtain ⟨v, ss, xs, g, so, us, n, rfl, tw, sN, uN, sN2, uN2, n0, q⟩ := h
  have hu := hu_of hr
  refine ⟨_, pss_cons (ps_expr (pe_call GN (hr.mono (by decide)) (by rfl) gN kN bN .nil pass0 (pa_cons (pe_tup (pa_cons (pv 1) (pa_cons (pv 2) pa_nil))) pa_nil)))
    (pss_cons (ps_if (pt_not (pt_val (pe_call GA (hr.mono (by decide)) (by rfl) gA kA bA .nil pass0 (pa_cons (pv 3) pa_nil)))) (pss_one Fk.ps_dead) pss_nil)
    (pss_cons ((ps_setDc (i := 4) (own := [("a", 5)]) (g := gName 5) (tt := tYes) (tk := tVar 5) (tv := tDc (iTup K (tFld K (tVar 0) "uses")) (gName 6) tYes (tVar 6) (tIx7 C 0 5 6) [6]) rfl nd rfl rfl rfl (pi_tup (pe_fld (pv 0) rfl)) (blkOk_by (N := NW7) (sc := defScope sWth) (by decide +kernel))
        (fun _ _ _ _ _ => pg_name (i := 5) nd rfl (Or.inr rfl)) (fun _ _ _ _ _ => pts_nil) (fun _ _ _ _ _ => pv 5) (fun _ _ _ _ _ => by
          refine pe_dc (own := [("x", 6)]) (wi := iTup K (tFld K (tVar 0) "uses")) (g := gName 6) (tt := tYes) (tk := tVar 6) (tv := tIx7 C 0 5 6) rfl nd (pi_tup (pe_fld (pv 0) rfl)) (blkOk_by (N := NW7) (sc := scInW) (by decide +kernel))
            (fun _ _ _ _ _ => pg_name (i := 6) nd rfl (Or.inl rfl)) (fun _ _ _ _ _ => pts_nil) (fun _ _ _ _ _ => pv 6) (fun _ _ _ _ _ => Own.pe_ixOwn M MF (hr.mono (by decide)) (pv 0) (pe_tup (pa_cons (pv 5) (pa_cons (pv 6) pa_nil)))))))
    (pss_cons (ps_expr (pe_dsetd (pv 4) (pv 1) pe_dnewK ⟨rfl, rfl, rfl, rfl⟩))
    (pss_cons (ps_dput hu (pe_dget hu (pv 4) (pv 1) (fun _ _ => rfl)) (pv 2) (pv 3) rfl)
    (pss_one (ps_ret (XG.pe_makeG MK GI Tb.spTI_len gd hr bI (by rfl) gT (pa_cons (pv 4) (pa_cons (pe_fld (pv 0) rfl) pa_nil))))))))), ?_⟩
  have nS : NameV (.str so) := sN2.nm so (mem_addN.mpr (.inr rfl))
  have nU : NameV (.str us) := uN2.nm us (mem_addN.mpr (.inr rfl))
  refine ⟨_, rfl, _, rfl, by show 2 ≤ sizeLine; decide, fun p np => ⟨p, [.str so, .str us], rfl, .inr (SqT.of upd_same), fun y hy => ?_, ?_⟩⟩
  · simp only [List.mem_cons, List.not_mem_nil, or_false] at hy
    rcases hy with rfl | rfl
    · exact nS
    · exact nU
  have e0 := Ex.new (o := .tup [.str so, .str us]) np
  generalize upd H p (.tup [.str so, .str us]) = H0 at e0 ⊢
  refine ⟨_, rfl, _, rfl, .inl ⟨n, rfl, _, rfl, ?_⟩⟩
  rw [decide_eq_true n0]
  refine iteF ?_
  dsimp only [tNext]
  obtain ⟨x, r, rfl, tb, gr, gw⟩ := tw.ex
  have tb0 := tb.mono e0
  obtain ⟨dx, n1, n2, dw, pp, prs, h1, h2, h3, h4, h5, h6⟩ := tb0.ex
  have sN' := sN.srt
  have uN' := uN.srt
  refine EvP.st_set (P := tabNR H0 ((srt ss).map fun a => (a, rowG g (srt xs) a))) (comp_tabR (σ := [some (.ref x), some (.str so), some (.str us), some (.int n), none, none, none]) (vs := [5]) (i := 5) (rowG g (srt xs)) (walks_tup (K := K) (tl := tFld K (tVar 0) "sources") (xs := (srt ss).map V.str) (fun H2 e2 Q2 k2 => ⟨_, rfl, x, C, dx, _, _, rfl, e2 _ _ h1, S.cl, S.nS, rfl, k2 _ _ (Ex.refl _) ⟨n1, rfl, e2 _ _ h2⟩⟩)) (by have := sN'.few; omega) sN'.nod (by show 5 < 7; decide) (fun _ => rfl) (fun a ha H1 e1 => ?_)) fun v H1 e1 hv => ?_
  · rw [ents_rowG]
    refine Cm.comp_dict (i := 6) (fun u => V.int (g (key2 a u))) (fun H2 e2 Q2 k2 => ⟨_, rfl, x, C, dx, _, _, rfl, e2 _ _ (e1 _ _ h1), S.cl, S.nU, rfl, k2 _ _ (Ex.refl _) ⟨n2, rfl, e2 _ _ (e1 _ _ h3)⟩⟩) (by have := uN'.few; omega) uN'.nod (by show 6 < 7; decide) (fun _ => rfl) (fun u hu => ?_)
    rw [← gw]
    exact g_ixT rfl rfl rfl (tb0.mono e1) (sN'.nm a ha) (uN'.nm u hu)
  obtain ⟨d, T, rfl, hT, eT, nodA, nd0, nw⟩ := hv.ex
  have hx1 := e1 _ _ h1
  have hn2 := e1 _ _ h3
  have nT : T.map (·.1) = srt ss := by
    have := congrArg (List.map Prod.fst) eT
    rw [List.map_map, List.map_map] at this
    exact this.trans (List.map_id _)
  have keep : ∀ b o, H b = some o → H1 b = some o ∧ b ≠ d ∧ ∀ t ∈ T, b ≠ t.2.1 := fun b o hb => ⟨e1 _ _ (e0 _ _ hb), ne_of_none (e0 _ _ hb) nd0, fun t ht => ne_of_none (e0 _ _ hb) (nw t ht).1⟩
  have ps := (srt_perm ss).symm
  have pu := (srt_perm xs).symm
  have twS := TabW.perm ps pu tw
  -- rows[source][use] = worth; Table(rows, self.uses)
  have rest : ∀ (H2 : Hp) (T' : Tab), TabAt H2 d T' → T'.map (fun t => (t.1, t.2.2)) = (addN (srt ss) so).map (fun a => (a, if a ∈ srt ss then rowG g (srt xs) a else [])) → (T'.map (·.2.1)).Nodup → (∀ t ∈ T', t.2.1 ≠ d ∧ H t.2.1 = none ∧ t.2.1 ≠ x ∧ t.2.1 ≠ n2) → (∀ b o, H b = some o → H2 b = some o) → H2 x = some (.ins C dx [("sources", .ref n1), ("uses", .ref n2), ("_worths", .ref dw), ("pairs", .ref pp)]) → H2 n2 = some (.tup ((srt xs).map V.str)) →
      tSeq (sDPut (tDGet (tVar 4) (tVar 1)) (tVar 2) (tVar 3)) (tRet (XG.tMakeG C (Tb.spTI K C) (tCons (tVar 4) (tCons (tFld K (tVar 0) "uses") tNil)))) { nx := fun _ H' => Q .non H', rt := Q } [some (.ref x), some (.str so), some (.str us), some (.int n), some (.ref d), none, none] H2 := fun H2 T' hT' eT' nA' new' kp hx2 hn22 => by
    have nT' : T'.map (·.1) = addN (srt ss) so := by
      have := congrArg (List.map Prod.fst) eT'
      rw [List.map_map, List.map_map] at this
      exact this.trans (List.map_id _)
    have nodT' : (T'.map (·.1)).Nodup := by
      rw [nT']
      exact addN_nod sN'.nod
    obtain ⟨t, ht, et⟩ : ∃ t ∈ T', t.1 = so := List.mem_map.mp (by rw [nT']; exact mem_addN.mpr (.inr rfl))
    have uniq : ∀ z ∈ T', z.1 = so → z = t := fun z hz ez => by
      have : ∀ (L : Tab), (L.map (·.1)).Nodup → z ∈ L → t ∈ L → z.1 = t.1 → z = t := fun L => by
        induction L with
        | nil => intro _ h; cases h
        | cons y L ih =>
          intro nd h1 h2 e
          rw [List.map_cons, List.nodup_cons] at nd
          rcases List.mem_cons.mp h1 with rfl | h3
          · rcases List.mem_cons.mp h2 with rfl | h4
            · rfl
            · exact absurd (List.mem_map.mpr ⟨t, h4, e.symm⟩) nd.1
          · rcases List.mem_cons.mp h2 with rfl | h4
            · exact absurd (List.mem_map.mpr ⟨z, h3, e⟩) nd.1
            · exact ih nd.2 h3 h4 e
      exact this T' nodT' hz ht (ez.trans et.symm)
    have vr := valV_row nodT' ht
    rw [et] at vr
    have rl : t.2.2.length ≤ 6 := by
      have : (t.1, t.2.2) ∈ (addN (srt ss) so).map (fun a => (a, if a ∈ srt ss then rowG g (srt xs) a else [])) := by
        rw [← eT']
        exact List.mem_map.mpr ⟨t, ht, rfl⟩
      obtain ⟨a, _, e⟩ := List.mem_map.mp this
      rw [← (Prod.mk.inj e).2]
      split
      · unfold rowG
        rw [List.length_map]
        exact uN'.few
      · exact Nat.zero_le _
    refine ⟨_, rfl, _, rfl, _, rfl, d, _, rfl, .inl ⟨_, Sum.inr so, .inl hT'.at_, rfl, vr.symm⟩, _, rfl, t.2.1, _, rfl, DPut.k (k := Sum.inr us) (hT'.row t ht) (by unfold ents; rw [List.length_map, sizeLine_eq]; omega), ?_⟩
    rw [putR_ents]
    have td := (new' t ht).1
    have hx3 : upd H2 t.2.1 (.dK (ents (putR t.2.2 us n))) x = some (.ins C dx [("sources", .ref n1), ("uses", .ref n2), ("_worths", .ref dw), ("pairs", .ref pp)]) := by
      rw [upd_ne (new' t ht).2.2.1.symm]
      exact hx2
    have hn3 : upd H2 t.2.1 (.dK (ents (putR t.2.2 us n))) n2 = some (.tup ((srt xs).map V.str)) := by
      rw [upd_ne (new' t ht).2.2.2.symm]
      exact hn22
    have kp3 : Ex H (upd H2 t.2.1 (.dK (ents (putR t.2.2 us n)))) := fun b o hb => by
      rw [upd_ne (ne_of_none hb (new' t ht).2.1)]
      exact kp b o hb
    have hT3 : TabAt (upd H2 t.2.1 (.dK (ents (putR t.2.2 us n)))) d (T'.map fun z => if z.1 = so then (z.1, z.2.1, putR z.2.2 us n) else z) := by
      refine ⟨?_, fun z hz => ?_⟩
      · rw [upd_ne td.symm, hT'.at_, List.map_map]
        refine congrArg (fun l => some (HO.dK l)) (List.map_congr_left fun z _ => ?_)
        show ((Sum.inr z.1 : Key), V.ref z.2.1) = ((Sum.inr (if z.1 = so then (z.1, z.2.1, putR z.2.2 us n) else z).1 : Key), V.ref (if z.1 = so then (z.1, z.2.1, putR z.2.2 us n) else z).2.1)
        split <;> rfl
      · obtain ⟨y, hy, rfl⟩ := List.mem_map.mp hz
        by_cases c : y.1 = so
        · rw [if_pos c]
          have := uniq y hy c
          rw [this]
          exact upd_same
        · rw [if_neg c]
          have ne : y.2.1 ≠ t.2.1 := fun e => by
            have h : ∀ (L : Tab), (L.map (·.2.1)).Nodup → y ∈ L → t ∈ L → y = t := fun L => by
              induction L with
              | nil => intro _ h; cases h
              | cons z L ih =>
                intro nd h1 h2
                rw [List.map_cons, List.nodup_cons] at nd
                rcases List.mem_cons.mp h1 with rfl | h3
                · rcases List.mem_cons.mp h2 with rfl | h4
                  · rfl
                  · exact absurd (List.mem_map.mpr ⟨t, h4, e.symm⟩) nd.1
                · rcases List.mem_cons.mp h2 with rfl | h4
                  · exact absurd (List.mem_map.mpr ⟨y, h3, e⟩) nd.1
                  · exact ih nd.2 h3 h4
            rw [h T' nA' hy ht] at c
            exact c et
          rw [upd_ne ne]
          exact hT'.row y hy
    generalize upd H2 t.2.1 (.dK (ents (putR t.2.2 us n))) = H3 at hx3 hn3 kp3 hT3 ⊢
    have eT3 : (T'.map fun z => if z.1 = so then (z.1, z.2.1, putR z.2.2 us n) else z).map (fun t => (t.1, t.2.2)) = (addN (srt ss) so).map fun a => (a, rowW7 g (srt ss) (srt xs) so us n a) := by
      have := congrArg (List.map fun p : Str × Fk.Row => if p.1 = so then (p.1, putR p.2 us n) else p) eT'
      rw [List.map_map, List.map_map] at this
      rw [List.map_map]
      refine Eq.trans (List.map_congr_left fun z _ => ?_) (this.trans (List.map_congr_left fun a _ => ?_))
      · show ((if z.1 = so then (z.1, z.2.1, putR z.2.2 us n) else z).1, (if z.1 = so then (z.1, z.2.1, putR z.2.2 us n) else z).2.2) = if z.1 = so then (z.1, putR z.2.2 us n) else (z.1, z.2.2)
        split <;> rfl
      · show (if a = so then (a, putR (if a ∈ srt ss then rowG g (srt xs) a else []) us n) else (a, if a ∈ srt ss then rowG g (srt xs) a else [])) = (a, rowW7 g (srt ss) (srt xs) so us n a)
        unfold rowW7
        by_cases c : a = so
        · rw [if_pos c, if_pos c]
        · rw [if_neg c, if_neg c]
    have nA3 : ((T'.map fun z => if z.1 = so then (z.1, z.2.1, putR z.2.2 us n) else z).map (·.2.1)).Nodup := by
      rw [List.map_map]
      have : T'.map ((·.2.1) ∘ fun z => if z.1 = so then (z.1, z.2.1, putR z.2.2 us n) else z) = T'.map (·.2.1) := List.map_congr_left fun z _ => by
        show (if z.1 = so then (z.1, z.2.1, putR z.2.2 us n) else z).2.1 = z.2.1
        split <;> rfl
      rw [this]
      exact nA'
    have pA := addN_perm (s := so) (srt_perm ss)
    have pB := addN_perm (s := us) (srt_perm xs)
    unfold tRet XG.tMakeG tCons
    dsimp only
    refine ⟨_, rfl, _, rfl, x, C, dx, _, _, rfl, hx3, S.cl, S.nU, rfl, ?_⟩
    show ∀ x dx, _
    exact go_makeF (A := addN (srt ss) so) (B := addN (srt xs) us) (us := srt xs) (f := rowW7 g (srt ss) (srt xs) so us n) (g := putG g (key2 so us) n) hT3 eT3 nA3 (.inr (SqT.of hn3)) (by have := uN'.few; omega) uN'.nm (sN2.perm pA.symm) (uN2.perm pB.symm) (fun a _ => rowW7_ok uN'.nod twS.nn n0 a)
      (rowW7_uses uN'.nod) (fun a _ => rowW7_val uN'.nod a) (rowW7_out uN'.nod twS.out) fun v H4 e4 t4 => q v H4 (kp3.trans e4) (TabW.perm pA pB t4)
  -- rows.setdefault(source, {})
  refine ⟨_, rfl, d, rfl, .inl ⟨_, .inl hT.at_⟩, _, rfl, fun z nz => ?_⟩
  have ez := Ex.new (o := .dK []) nz
  have hz : upd H1 z (.dK []) z = some (.dK []) := upd_same
  have zd : z ≠ d := (ne_of_none hT.at_ nz).symm
  have zx : z ≠ x := (ne_of_none hx1 nz).symm
  have zn : z ≠ n2 := (ne_of_none hn2 nz).symm
  have zH : H z = none := by
    cases c : H z with
    | none => rfl
    | some o =>
      rw [(keep _ _ c).1] at nz
      cases nz
  have zT : ∀ t ∈ T, t.2.1 ≠ z := fun t ht => ne_of_none (hT.row t ht) nz
  have xT : ∀ t ∈ T, t.2.1 ≠ x ∧ t.2.1 ≠ n2 := fun t ht => ⟨(ne_of_none h1 (nw t ht).1).symm, (ne_of_none h3 (nw t ht).1).symm⟩
  have tH : ∀ t ∈ T, H t.2.1 = none := fun t ht => e0.back (nw t ht).1
  have dH : d ≠ x ∧ d ≠ n2 := ⟨(ne_of_none h1 nd0).symm, (ne_of_none h3 nd0).symm⟩
  have l6 : (T.map fun t => ((Sum.inr t.1 : Key), V.ref t.2.1)).length < sizeLine := by
    have := congrArg List.length nT
    rw [List.length_map] at this
    rw [List.length_map, sizeLine_eq]
    have := sN'.few
    omega
  refine ⟨_, Sum.inr so, ez _ _ hT.at_, rfl, l6, fun v hv => ?_, fun hn => ?_⟩
  · have c : so ∈ srt ss := Classical.byContradiction fun c => by
      rw [valV_norow (by rw [nT]; exact c)] at hv
      cases hv
    refine rest _ T (hT.ex ez) ?_ nodA (fun t ht => ⟨(nw t ht).2, tH t ht, xT t ht⟩) (fun b o hb => ez _ _ (keep b o hb).1) (ez _ _ hx1) (ez _ _ hn2)
    rw [eT]
    unfold addN
    rw [if_pos c]
    exact List.map_congr_left fun a ha => by rw [if_pos ha]
  · have c : so ∉ srt ss := fun c => by
      rw [← nT] at c
      obtain ⟨t, ht, e⟩ := List.mem_map.mp c
      rw [← e, valV_row (by rw [nT]; exact sN'.nod) ht] at hn
      cases hn
    refine rest _ (T ++ [(so, z, [])]) ⟨?_, fun t ht => ?_⟩ ?_ ?_ (fun t ht => ?_) (fun b o hb => ?_) ?_ ?_
    · rw [upd_same, putK_new _ hn, List.map_append]
      rfl
    · rcases List.mem_append.mp ht with ht | ht
      · rw [upd_ne (nw t ht).2, upd_ne (zT t ht)]
        exact hT.row t ht
      · obtain rfl := List.mem_singleton.mp ht
        rw [upd_ne zd]
        exact hz
    · rw [List.map_append, eT]
      unfold addN
      rw [if_neg c, List.map_append]
      congr 1
      · exact List.map_congr_left fun a ha => by rw [if_pos ha]
      · show [(so, ([] : Fk.Row))] = [(so, if so ∈ srt ss then rowG g (srt xs) so else [])]
        rw [if_neg c]
    · rw [List.map_append, List.nodup_append]
      refine ⟨nodA, by simp, fun k hk k' hk' e => ?_⟩
      obtain ⟨t, ht, rfl⟩ := List.mem_map.mp hk
      obtain rfl := List.mem_singleton.mp hk'
      exact zT t ht e
    · rcases List.mem_append.mp ht with ht | ht
      · exact ⟨(nw t ht).2, tH t ht, xT t ht⟩
      · obtain rfl := List.mem_singleton.mp ht
        exact ⟨zd, zH, zx, zn⟩
    · rw [upd_ne (keep b o hb).2.1]
      exact ez _ _ (keep b o hb).1
    · rw [upd_ne dH.1.symm]
      exact ez _ _ hx1
    · rw [upd_ne dH.2.symm]
      exact ez _ _ hn2
end
end K06

set_option Elab.async false
set_option linter.all false
set_option maxRecDepth 100000
set_option maxHeartbeats 4000000
/-! *d of a dict in a list; Table.rated. -/
namespace StX
open PySem PySem.Spec PyProof.Rows L2
section
variable {X : Cx} {pins : List (Addr × Obj)} {σ : L2.St} {H : Hp} {s : Shared}
theorem star_dK {a : Addr} {kvs : List (Key × V)} {E : Value → Shared → Prop} {Q : List Value → Shared → Prop} (hc : X.calm = true) (I : Inv X pins σ H s) (hk : H a = some (.dK kvs)) (hQ : ∀ us s', Inv X pins σ H s' → Vals (kvs.map fun kv => kV kv.1) us → Q us s') : PySem.W.StarOf (model X.prog X.w) X.A E (.ref a) Q s := by
  obtain ⟨z, lo, vs, rk, hd⟩ := (show ObjOk X.prog X.w H s.heap a (.dK kvs) from I.hok a _ hk)
  have hT := hd.typeIs
  obtain ⟨ep, hat⟩ := hd.dictAt
  have hl : kvs.length = vs.length := Paired.length rk
  have zz : wpAny (model X.prog X.w) X.A (collect (.ref a)) Q E s := by
    refine PySem.W.kdu_collect (PySem.W.kdl_dict (knd := mixKind X.prog X.w) (kvs := vs) (ep := ep) lo) (I.ok.hd hc) hat (by rw [← hl]; exact z) fun h' tk acc hkeep hacc => ?_
    refine hQ acc.toList _ (I.kept (t' := tk) hkeep) ?_
    have el : acc.toList.length = acc.size := by simp
    refine vals_of_at (by rw [List.length_map, el, hacc.1, hl]) fun j x w h1 h2 => ?_
    obtain ⟨k, y, hky, hi⟩ := hacc.2 j w (by rw [← Array.getElem?_toList]; exact h2)
    have e1 : (kvs.map (·.1))[j]? = some k := by
      rw [KV.keys rk, List.getElem?_map, hky] <;> rfl
    have e2 : (kvs.map fun kv => kV kv.1)[j]? = some (kV k) := by
      have e3 : (kvs.map fun kv => kV kv.1) = (kvs.map (·.1)).map kV := by rw [List.map_map] <;> rfl
      rw [e3, List.getElem?_map, e1] <;> rfl
    rw [e2] at h1
    cases h1
    exact keyIs_rel hi
  unfold PySem.W.StarOf notIterableAtAll
  exact wpAny_bind (wpAny_specialOf hT PySem.F.slot_dict_iter.lookup (wpAny_pure ⟨rfl, zz⟩))
end
/-- *d in a list: the keys -/
def tStarD (te : TE) (t : TA) : TA := fun σ H Q => te σ H fun x H1 => ∃ p kvs, x = V.ref p ∧ H1 p = some (.dK kvs) ∧ t σ H1 fun ys H2 => Q ((kvs.map fun kv => kV kv.1) ++ ys) H2
theorem pa_starD {X : Cx} {e : Expr} {es : List Expr} {te : TE} {t : TA} {p : Pos} (hc : X.calm = true) (he : PE X e te) (hr : PA X es t) (hs : starEach (.Starred e p :: es) X.env = (true, eval e X.env) :: starEach es X.env := by rfl) : PA X (.Starred e p :: es) (tStarD te t) := by
  refine ⟨fun pos pins s σ H Q I h => ?_⟩
  refine PySem.W.items_star (thn (he.run pins s σ H _ I h) fun v s1 ⟨y, H1, I1, ry, a, kvs, ey, hx, q⟩ => ?_) hs
  subst ey
  obtain rfl : v = Value.ref a := ry
  refine star_dK hc I1 hx fun us s2 I2 rv => ?_
  exact thn (hr.run pos pins s2 σ H1 _ I2 q) fun ws s3 ⟨vs, H3, I3, r3, q3⟩ => ⟨_, H3, I3, rv.append r3, q3⟩
end StX
namespace K06
open PySem PySem.Spec PyProof.Rows L2 Cm
open DtE (TRow tents lookT)
open Tb (key2 PairK wk TblAt TblC Tab TabAt rowsO tmeth firsts spTItem)
open Fk (NameV nameB srt srt_perm ents spSeq spAll AmtV)
open EvP (Ex All2 is Gives)
/-- what a row tells of a name -/
def rowVal (r : Fk.Row) (a : Str) : Int := ((r.find? fun e => decide (e.1 = a)).map (·.2)).getD 0
theorem rowVal_out {r : Fk.Row} {a : Str} (h : a ∉ r.map (·.1)) : rowVal r a = 0 := by
  unfold rowVal
  have : r.find? (fun e => decide (e.1 = a)) = none := List.find?_eq_none.mpr fun e he q => h (List.mem_map.mpr ⟨e, he, of_decide_eq_true q⟩)
  rw [this]
  rfl
theorem rowVal_in {r : Fk.Row} {e : Str × Int} (nod : (r.map (·.1)).Nodup) (h : e ∈ r) : rowVal r e.1 = e.2 := by
  unfold rowVal
  induction r with
  | nil => cases h
  | cons z r ih =>
    rw [List.map_cons, List.nodup_cons] at nod
    rw [List.find?_cons]
    rcases List.mem_cons.mp h with rfl | h
    · rw [decide_eq_true rfl]
      rfl
    · rw [decide_eq_false fun q : z.1 = e.1 => nod.1 (List.mem_map.mpr ⟨e, h, q.symm⟩)]
      exact ih nod.2 h
theorem valV_ents {r : Fk.Row} {a : Str} (h : a ∈ r.map (·.1)) : valV (ents r) (Sum.inr a : Key) = some (.int (rowVal r a)) := by
  unfold ents rowVal
  induction r with
  | nil => cases h
  | cons z r ih =>
    rw [List.map_cons]
    unfold valV at ih ⊢
    rw [List.find?_cons, List.find?_cons]
    by_cases c : z.1 = a
    · rw [decide_eq_true c, decide_eq_true (show (Sum.inr z.1 : Key) = Sum.inr a from congrArg Sum.inr c)]
      rfl
    · rw [decide_eq_false c, decide_eq_false (show ¬ ((Sum.inr z.1 : Key) = Sum.inr a) from fun q => c (Sum.inr.inj q))]
      rw [List.map_cons] at h
      exact ih ((List.mem_cons.mp h).resolve_left fun q => c q.symm)
theorem rowVal_nn {r : Fk.Row} (nn : ∀ e ∈ r, 0 ≤ e.2) (a : Str) : 0 ≤ rowVal r a := by
  unfold rowVal
  cases h : r.find? (fun e => decide (e.1 = a)) with
  | none => exact Int.le_refl _
  | some e => exact nn e (List.mem_of_find?_eq_some h)
def prodG (r1 r2 : Fk.Row) : List Key → Int
  | [Sum.inr a, Sum.inr x] => rowVal r1 a * rowVal r2 x
  | _ => 0
theorem prodG_out (r1 r2 : Fk.Row) : OutOf (r1.map (·.1)) (r2.map (·.1)) (prodG r1 r2) := fun k h => by
  match k, h with
  | [], _ => rfl
  | [Sum.inl _], _ => rfl
  | [Sum.inr _], _ => rfl
  | [Sum.inl _, Sum.inl _], _ => rfl
  | [Sum.inl _, Sum.inr _], _ => rfl
  | [Sum.inr _, Sum.inl _], _ => rfl
  | Sum.inl _ :: _ :: _ :: _, _ => rfl
  | Sum.inr _ :: Sum.inl _ :: _ :: _, _ => rfl
  | Sum.inr _ :: Sum.inr _ :: _ :: _, _ => rfl
  | [Sum.inr a, Sum.inr x], h =>
    show rowVal r1 a * rowVal r2 x = 0
    by_cases c : a ∈ r1.map (·.1)
    · by_cases d : x ∈ r2.map (·.1)
      · exact absurd ⟨a, c, x, d, rfl⟩ h
      · rw [rowVal_out d, Int.mul_zero]
    · rw [rowVal_out c, Int.zero_mul]
theorem prodG_nn {r1 r2 : Fk.Row} (n1 : ∀ e ∈ r1, 0 ≤ e.2) (n2 : ∀ e ∈ r2, 0 ≤ e.2) (k : List Key) : 0 ≤ prodG r1 r2 k := by
  unfold prodG
  split
  · exact Int.mul_nonneg (rowVal_nn n1 _) (rowVal_nn n2 _)
  · exact Int.le_refl _
theorem mem_rowG {g : List Key → Int} {B : List Str} {a : Str} {e : Str × Int} : e ∈ rowG g B a ↔ e.1 ∈ B ∧ e.2 = g (key2 a e.1) := by
  unfold rowG
  constructor
  · intro h
    obtain ⟨x, hx, rfl⟩ := List.mem_map.mp h
    exact ⟨hx, rfl⟩
  · rintro ⟨h, q⟩
    exact List.mem_map.mpr ⟨e.1, h, by rw [← q]⟩
/-- Table(rows, uses) of full rows -/
theorem go_makeG {A B : List Str} {T : Tab} {g : List Key → Int} {K : PySem.W.Frag} {C d u : Addr} {H3 : Hp} {Q : VK} (hT : TabAt H3 d T) (eT : T.map (fun t => (t.1, t.2.2)) = A.map fun a => (a, rowG g B a)) (nod : (T.map (·.2.1)).Nodup) (h3 : Fk.SqA K H3 u (B.map V.str)) (nA : NamesOk A) (nB : NamesOk B) (nn : ∀ k, 0 ≤ g k) (out : OutOf A B g)
    (q : ∀ v H', Ex H3 H' → TabW C A B g v H' → Q v H') : ∀ x dx, H3 x = none → H3 dx = none → dx ≠ x → Tb.spTI K C [.ref x, .ref d, .ref u] (upd (upd H3 dx (.own x)) x (.ins C dx [])) (fun v H2 => v = .non ∧ Q (.ref x) H2) E0 :=
  go_make hT eT nod h3 nA nB nn out q
abbrev sRat : Stmt := tmeth 23
abbrev NRt : List Str := ["by_source", "by_use", "a", "x"]
theorem scRat : FnScope NRt ["by_source", "by_use"] (defScope sRat) := ⟨rfl, rfl, rfl, by decide +kernel, rfl, by decide +kernel, by decide +kernel⟩
def spTRat (C : Addr) : Sp := fun vs H Q _ => ∃ (d1 d2 : Addr) (r1 r2 : Fk.Row), vs = [.ref d1, .ref d2] ∧ H d1 = some (.dK (ents r1)) ∧ H d2 = some (.dK (ents r2)) ∧ d1 ≠ d2 ∧ NamesOk (r1.map (·.1)) ∧ NamesOk (r2.map (·.1)) ∧ (∀ e ∈ r1, 0 ≤ e.2 ∧ e.2 < 10 ^ 64) ∧ (∀ e ∈ r2, 0 ≤ e.2 ∧ e.2 < 10 ^ 64) ∧
  ∀ c H', Ex H H' → TabW C (r1.map (·.1)) (r2.map (·.1)) (prodG r1 r2) c H' → Q c H'
theorem spTRat_len {C : Addr} : ∀ vs H Q E, spTRat C vs H Q E → vs.length = (["by_source", "by_use"] : List Str).length := fun vs H Q E h => by
  obtain ⟨d1, d2, r1, r2, rfl, _⟩ := h
  rfl
def scInR : Scope := { kind := ScopeKind.function, names := [(Str.ofString ".0", NameKind.local), (Str.ofString "a", NameKind.cell), (Str.ofString "by_source", NameKind.cell), (Str.ofString "by_use", NameKind.cell)], isGenerator := false, isCoroutine := false }
/-- a dict of rows, without a word of what is new -/
def tabA7 (B : List (Str × Fk.Row)) : EvP.PR := ⟨fun v H => ∃ (d : Addr) (T : Tab), v = .ref d ∧ TabAt H d T ∧ T.map (fun t : Str × Addr × Fk.Row => (t.1, t.2.2)) = B ∧ (T.map (fun t : Str × Addr × Fk.Row => t.2.1)).Nodup, fun _ _ _ e h => by
  obtain ⟨d, T, h1, h2, h3, h4⟩ := h
  exact ⟨d, T, h1, ⟨e _ _ h2.at_, fun t ht => e _ _ (h2.row t ht)⟩, h3, h4⟩⟩
theorem rowVal_lt {r : Fk.Row} {b : Int} (hb : 0 < b) (h : ∀ e ∈ r, e.2 < b) (a : Str) : rowVal r a < b := by
  unfold rowVal
  cases q : r.find? (fun e => decide (e.1 = a)) with
  | none => exact hb
  | some e => exact h e (List.mem_of_find?_eq_some q)
section
variable {K : PySem.W.Frag} {σ : L2.St} {H : Hp}
theorem g_dget7 {i j : Nat} {d : Addr} {od : Obj} {r : Fk.Row} {a : Str} (hi : σ[i]? = some (some (.ref d))) (hj : σ[j]? = some (some (.str a))) (hd : H d = some (.frz od (.dK (ents r)))) (ha : a ∈ r.map (·.1)) : Gives (tDGet (tVar i) (tVar j)) σ H (is (.int (rowVal r a))) := fun H1 e Q q =>
  ⟨_, hi, _, hj, d, _, rfl, .inl ⟨ents r, Sum.inr a, .inr ⟨od, e _ _ hd⟩, rfl, (valV_ents ha).symm⟩, q _ _ (Ex.refl _) rfl⟩
theorem keys_ents (r : Fk.Row) : ((ents r).map fun kv => kV kv.1) = (r.map (·.1)).map V.str := by
  unfold ents
  rw [List.map_map, List.map_map]
  rfl
end
section
variable {P : Program} {w : World} {K : PySem.W.Frag} {mg : Str → Option Value} {base : Heap} {C f fN fW fI : Addr} {fd fdN fdW fdI : FuncData}
theorem ok_trat (F : Fun K "rated" "Table.rated" sRat f fd) (T : Fk.Blt mg) (R : Fk.BltR mg) (hD : mg "dict" = none)
    (GN : FnOk P w K mg base CX0 2 fN fdN ["values"] (spSeq K NameV)) (bN : Binds K fdN ["values"] []) (gN : mg "check_names" = some (.ref fN)) (kN : PySem.W.keepIn K (.ref fN) = true)
    (GW : FnOk P w K mg base CX0 3 fW fdW ["values"] (spAll K AmtV)) (bW : Binds K fdW ["values"] []) (gW : mg "check_worths" = some (.ref fW)) (kW : PySem.W.keepIn K (.ref fW) = true)
    (MK : Mk K C fI) (GI : XG.FnG P w K mg base CX0 5 fI fdI ["self", "rows", "uses"] (Tb.spTI K C)) (bI : Binds K fdI ["self", "rows", "uses"] []) (gT : mg "Table" = some (.ref C)) : XG.FnG P w K mg base CX0 7 f fd ["by_source", "by_use"] (spTRat C) := by
  have nd := scRat.nd
  refine XG.Fun.okG F scRat spTRat_len fun cdv A outer sh H vs Q E gd hr h => ?_
  obtain ⟨d1, d2, r1, r2, rfl, h1, h2, ne, nA, nB, b1, b2, q⟩ := h
  have hu := hu_of hr
  refine ⟨_, pss_cons (ps_if (pt_not (pt_val (pe_callB call_isi (by rfl) T.isi (by decide +kernel) (pa_cons (pv 0) (pa_cons (pe_bltn (v := .ty "dict") (by rfl) hD (by decide +kernel) rfl) pa_nil))))) (pss_one Fk.ps_dead) pss_nil)
    (pss_cons (ps_if (pt_not (pt_val (pe_callB call_isi (by rfl) T.isi (by decide +kernel) (pa_cons (pv 1) (pa_cons (pe_bltn (v := .ty "dict") (by rfl) hD (by decide +kernel) rfl) pa_nil))))) (pss_one Fk.ps_dead) pss_nil)
    (pss_cons (ps_expr (pe_call GN (hr.mono (by decide)) (by rfl) gN kN bN .nil pass0 (pa_cons (pe_lst (StX.pa_starD rfl (pv 0) (StX.pa_starD rfl (pv 1) pa_nil))) pa_nil)))
    (pss_cons (ps_expr (pe_call GW (hr.mono (by decide)) (by rfl) gW kW bW .nil pass0 (pa_cons (pe_lst (StX.pa_star (pe_listVals rfl (by rfl) R.list (pv 0)) (StX.pa_star (pe_listVals rfl (by rfl) R.list (pv 1)) pa_nil))) pa_nil)))
    (pss_one (ps_ret (XG.pe_makeG MK GI Tb.spTI_len gd hr bI (by rfl) gT (pa_cons
      (pe_lockL (pe_dc (own := [("a", 2)]) (g := gName 2) (tt := tYes) (tk := tVar 2) (tv := tDc (iKeys (tVar 1)) (gName 3) tYes (tVar 3) (tOp (rI CMulW fun i j => .int (i * j)) (tDGet (tVar 0) (tVar 2)) (tDGet (tVar 1) (tVar 3))) [3]) rfl nd (pi_keys (pv 0)) (blkOk_by (N := NRt) (sc := defScope sRat) (by decide +kernel))
        (fun _ _ _ _ _ => pg_name (i := 2) nd rfl (Or.inr rfl)) (fun _ _ _ _ _ => pts_nil) (fun _ _ _ _ _ => pv 2) (fun _ _ _ _ _ => by
          refine pe_dc (own := [("x", 3)]) (wi := iKeys (tVar 1)) (g := gName 3) (tt := tYes) (tk := tVar 3) (tv := tOp (rI CMulW fun i j => .int (i * j)) (tDGet (tVar 0) (tVar 2)) (tDGet (tVar 1) (tVar 3))) rfl nd (pi_keys (pv 1)) (blkOk_by (N := NRt) (sc := scInR) (by decide +kernel))
            (fun _ _ _ _ _ => pg_name (i := 3) nd rfl (Or.inl rfl)) (fun _ _ _ _ _ => pts_nil) (fun _ _ _ _ _ => pv 3) (fun _ _ _ _ _ => pe_op op_mulW (pe_dget hu (pv 0) (pv 2) (fun _ _ => rfl)) (pe_dget hu (pv 1) (pv 3) (fun _ _ => rfl))))))
      (pa_cons (pe_callTy (T := "list") (call_listD rfl) (by rfl) R.list (by decide +kernel) (pa_cons (pv 1) pa_nil)) pa_nil)))))))), ?_⟩
  have A6 := nA.few
  have B6 := nB.few
  have l1 : (ents r1).length ≤ 6 := by
    unfold ents
    rw [List.length_map]
    rw [List.length_map] at A6
    exact A6
  have l2 : (ents r2).length ≤ 6 := by
    unfold ents
    rw [List.length_map]
    rw [List.length_map] at B6
    exact B6
  refine ⟨_, rfl, _, _, _, _, true, rfl, .ty _, .base (.dK h1), kit_ty (by decide +kernel), _, rfl, ?_⟩
  dsimp only [Bool.not_true, tNext]
  rw [if_neg (show ¬ (!true) = true by decide)]
  refine ⟨_, rfl, _, _, _, _, true, rfl, .ty _, .base (.dK h2), kit_ty (by decide +kernel), _, rfl, ?_⟩
  dsimp only [Bool.not_true, tNext]
  rw [if_neg (show ¬ (!true) = true by decide)]
  -- check_names
  refine ⟨_, rfl, d1, _, rfl, h1, _, rfl, d2, _, rfl, h2, ?_, fun p np => ⟨p, _, rfl, .inl (SqL.of upd_same), fun y hy => ?_, ?_⟩⟩
  · rw [List.append_nil, List.length_append, List.length_map, List.length_map, sizeLine_eq]
    omega
  · rw [List.append_nil, keys_ents, keys_ents] at hy
    rcases List.mem_append.mp hy with hy | hy
    · obtain ⟨n, hn, rfl⟩ := List.mem_map.mp hy
      exact nA.nm n hn
    · obtain ⟨n, hn, rfl⟩ := List.mem_map.mp hy
      exact nB.nm n hn
  have e1 := Ex.new (o := .lst (((ents r1).map fun kv => kV kv.1) ++ (((ents r2).map fun kv => kV kv.1) ++ []))) np
  generalize upd H p (.lst (((ents r1).map fun kv => kV kv.1) ++ (((ents r2).map fun kv => kV kv.1) ++ []))) = H1 at e1 ⊢
  have g1 := e1 _ _ h1
  have g2 := e1 _ _ h2
  -- check_worths
  refine ⟨_, rfl, d1, _, rfl, g1, fun p1 np1 => ?_⟩
  have e2 := Ex.new (o := .lst ((ents r1).map (·.2))) np1
  have q1 : upd H1 p1 (.lst ((ents r1).map (·.2))) p1 = some (.lst ((ents r1).map (·.2))) := upd_same
  generalize upd H1 p1 (.lst ((ents r1).map (·.2))) = H2 at e2 q1 ⊢
  refine ⟨p1, _, rfl, .inr (SqL.of q1), _, rfl, d2, _, rfl, e2 _ _ g2, fun p2 np2 => ?_⟩
  have e3 := Ex.new (o := .lst ((ents r2).map (·.2))) np2
  have q2 : upd H2 p2 (.lst ((ents r2).map (·.2))) p2 = some (.lst ((ents r2).map (·.2))) := upd_same
  generalize upd H2 p2 (.lst ((ents r2).map (·.2))) = H3 at e3 q2 ⊢
  refine ⟨p2, _, rfl, .inr (SqL.of q2), ?_, fun p3 np3 => ⟨p3, _, rfl, SqL.of upd_same, fun y hy => ?_, ?_⟩⟩
  · rw [List.append_nil, List.length_append, List.length_map, List.length_map, sizeLine_eq]
    omega
  · rw [List.append_nil] at hy
    unfold ents at hy
    rw [List.map_map, List.map_map] at hy
    rcases List.mem_append.mp hy with hy | hy
    · obtain ⟨n, hn, rfl⟩ := List.mem_map.mp hy
      exact ⟨n.2, rfl, (b1 n hn).1⟩
    · obtain ⟨n, hn, rfl⟩ := List.mem_map.mp hy
      exact ⟨n.2, rfl, (b2 n hn).1⟩
  have e4 := ((e1.trans e2).trans e3).trans (Ex.new (o := .lst ((ents r1).map (·.2) ++ ((ents r2).map (·.2) ++ []))) np3)
  generalize upd H3 p3 (.lst ((ents r1).map (·.2) ++ ((ents r2).map (·.2) ++ []))) = H4 at e4 ⊢
  have k1 := e4 _ _ h1
  have k2 := e4 _ _ h2
  unfold tRet XG.tMakeG tCons
  dsimp only
  have nn := prodG_nn (r1 := r1) (r2 := r2) (fun e he => (b1 e he).1) (fun e he => (b2 e he).1)
  refine (Cm.g_lock (ds := [(d1, .dK (ents r1)), (d2, .dK (ents r2))]) (P0 := tabA7 ((r1.map (·.1)).map fun a => (a, rowG (prodG r1 r2) (r2.map (·.1)) a))) (P := tabA7 ((r1.map (·.1)).map fun a => (a, rowG (prodG r1 r2) (r2.map (·.1)) a))) (by simp [ne]) (fun p hp => ?_) (fun H5 e5 Hf fr => ?_) fun v H5 Hf H6 H7 e5 fr e6 th ⟨d, T, ev, hT, eT, nA⟩ => ⟨d, T, ev, ⟨th.new fr e6 hT.at_ fun _ _ z => (nomatch z), fun t ht => th.new fr e6 (hT.row t ht) fun _ _ z => (nomatch z)⟩, eT, nA⟩) H4 (Ex.refl _) _ fun v H5 e5 hv => ?_
  · simp only [List.mem_cons, List.not_mem_nil, or_false] at hp
    rcases hp with rfl | rfl
    · exact ⟨k1, True.intro⟩
    · exact ⟨k2, True.intro⟩
  · obtain ⟨o1, f1⟩ := fr.at_ (d1, .dK (ents r1)) (by simp)
    obtain ⟨o2, f2⟩ := fr.at_ (d2, .dK (ents r2)) (by simp)
    have wA := walks_keys (σ := [some (.ref d1), some (.ref d2), none, none]) (m := 0) rfl f1
    rw [keys_ents] at wA
    refine Fk.Gives.imp (comp_tabR (σ := [some (.ref d1), some (.ref d2), none, none]) (vs := [2]) (i := 2) (rowG (prodG r1 r2) (r2.map (·.1))) wA (by omega) nA.nod (by show 2 < 4; decide) (fun _ => rfl) (fun a ha H6 e6 => ?_)) fun v Hz hv => ?_
    · rw [ents_rowG]
      have wB := walks_keys (σ := [some (.ref d1), some (.ref d2), some (.str a), none]) (m := 1) rfl (e6 _ _ f2)
      rw [keys_ents] at wB
      refine comp_dictW (σ := [some (.ref d1), some (.ref d2), some (.str a), none]) (vs := [3]) (i := 3) (fun u => V.int (prodG r1 r2 (key2 a u))) wB (by omega) nB.nod (by show 3 < 4; decide) (fun _ => rfl) (fun u hu => ?_)
      exact g_op (P := is (.int (rowVal r1 a))) (R := is (.int (rowVal r2 u))) (g_dget7 rfl rfl (e6 _ _ f1) ha) (g_dget7 rfl rfl (e6 _ _ f2) hu) fun x y H9 e9 ex ey Q9 k9 => ⟨_, _, ex, ey, wide_mul (Nat.lt_of_lt_of_le (show _ < 10 ^ 64 by have h1 := rowVal_lt (by decide) (fun e he => (b1 e he).2) a; have h2 := rowVal_nn (fun e he => (b1 e he).1) a; omega) (show 10 ^ 64 ≤ 2 ^ 213 by decide +kernel)) (Nat.lt_of_lt_of_le (show _ < 10 ^ 64 by have h1 := rowVal_lt (by decide) (fun e he => (b2 e he).2) u; have h2 := rowVal_nn (fun e he => (b2 e he).1) u; omega) (show 10 ^ 64 ≤ 2 ^ 213 by decide +kernel)) (by decide) (by decide) (by decide), k9 _ _ (Ex.refl _) rfl⟩
    · obtain ⟨d, T, ev, hT, eT, nA, _⟩ := hv.ex
      exact ⟨d, T, ev, hT, eT, nA⟩
  obtain ⟨d, T, rfl, hT, eT, nodA⟩ := hv
  refine ⟨_, rfl, d2, _, rfl, .inl (e5 _ _ k2), fun p5 np5 => ?_⟩
  have e6 := Ex.new (o := .lst ((ents r2).map fun kv => kV kv.1)) np5
  have q5 : upd H5 p5 (.lst ((ents r2).map fun kv => kV kv.1)) p5 = some (.lst ((ents r2).map fun kv => kV kv.1)) := upd_same
  generalize upd H5 p5 (.lst ((ents r2).map fun kv => kV kv.1)) = H6 at e6 q5 ⊢
  rw [keys_ents] at q5
  show ∀ x dx, _
  exact go_makeG (hT.ex e6) eT nodA (.inl (SqL.of q5)) nA nB nn (prodG_out r1 r2) fun v H7 e7 t7 => q v H7 (((e4.trans e5).trans e6).trans e7) t7
end
end K06

set_option Elab.async false
set_option linter.all false
set_option maxRecDepth 100000
set_option maxHeartbeats 4000000
/-! Table.flat: rows are lists or tuples, a use perhaps twice. -/
namespace K06
open PySem PySem.Spec PyProof.Rows L2 Cm
open DtE (TRow tents lookT)
open Tb (key2 PairK wk TblAt TblC Tab TabAt rowsO tmeth firsts wrow)
open Fk (NameV nameB srt srt_perm ents spSeq spAll AmtV)
open EvP (Ex All2 is Gives)
/-- scopes: names with lists of names -/
abbrev Sc := List (Str × Addr × List Str)
abbrev scO (S : Sc) : HO := .dK (S.map fun t => ((Sum.inr t.1 : Key), V.ref t.2.1))
structure ScAt (H : Hp) (d : Addr) (S : Sc) : Prop where
  at_ : H d = some (scO S)
  row : ∀ t ∈ S, H t.2.1 = some (.lst (t.2.2.map V.str)) ∨ H t.2.1 = some (.tup (t.2.2.map V.str))
structure ScOk (S : Sc) : Prop where
  nod : (S.map (·.1)).Nodup
  nm : ∀ t ∈ S, NameV (.str t.1)
  row : ∀ t ∈ S, (∀ n ∈ t.2.2, NameV (.str n)) ∧ t.2.2.length ≤ 12
  few : S.length ≤ 6
theorem ScAt.ex {H H' : Hp} {d : Addr} {S : Sc} (e : Ex H H') (h : ScAt H d S) : ScAt H' d S := ⟨e _ _ h.at_, fun t ht => (h.row t ht).imp (e _ _) (e _ _)⟩
theorem ScAt.ne {H : Hp} {d : Addr} {S : Sc} (h : ScAt H d S) : ∀ t ∈ S, t.2.1 ≠ d := fun t ht => (h.row t ht).elim (fun r => ne_of r h.at_ fun z => nomatch z) fun r => ne_of r h.at_ fun z => nomatch z
/-- a source's uses -/
def rowOf (S : Sc) (a : Str) : List Str := ((S.find? fun t => decide (t.1 = a)).map (·.2.2)).getD []
def rowFl (S : Sc) (w : Int) (a : Str) : Fk.Row := (firsts (rowOf S a)).map fun u => (u, w)
def flatG (S : Sc) (w : Int) : List Key → Int
  | [Sum.inr a, Sum.inr x] => if x ∈ rowOf S a then w else 0
  | _ => 0
def spFlat (C : Addr) : Sp := fun vs H Q _ => ∃ (d : Addr) (S : Sc) (w : Int) (B : List Str), vs = [.ref d, .int w] ∧ ScAt H d S ∧ ScOk S ∧ 0 ≤ w ∧ NamesOk B ∧ (∀ x, x ∈ B ↔ ∃ t ∈ S, x ∈ t.2.2) ∧ ∀ c H', Ex H H' → TabW C (S.map (·.1)) B (flatG S w) c H' → Q c H'
theorem spFlat_len {C : Addr} : ∀ vs H Q E, spFlat C vs H Q E → vs.length = (["scopes", "worth"] : List Str).length := fun vs H Q E h => by
  obtain ⟨d, S, w, B, rfl, _⟩ := h
  rfl
abbrev sFlat : Stmt := tmeth 22
abbrev NFl : List Str := ["scopes", "worth", "uses", "source", "row", "use"]
theorem scFlat : FnScope NFl ["scopes", "worth"] (defScope sFlat) := ⟨rfl, rfl, rfl, by decide +kernel, rfl, by decide +kernel, by decide +kernel⟩
section
variable {K : PySem.W.Frag} {σ : L2.St} {H : Hp}
theorem froz_sc {d : Addr} {S : Sc} {Hf : Hp} (h : ScAt H d S) (f : Froz [(d, scO S)] H Hf) : (∃ od, Hf d = some (.frz od (scO S))) ∧ ∀ t ∈ S, Hf t.2.1 = some (.lst (t.2.2.map V.str)) ∨ Hf t.2.1 = some (.tup (t.2.2.map V.str)) :=
  ⟨f.at_ _ (.head _), fun t ht => by
    rw [f.old _ (by simpa using h.ne t ht)]
    exact h.row t ht⟩
/-- for uses in scopes.values(): .. -/
theorem st_forSc {m i : Nat} {d : Addr} {S : Sc} {tb u : TS} {D : Ends} (hd : σ[m]? = some (some (.ref d))) (h : ScAt H d S) (h0 : ∃ z, σ = σ.set i z)
    (turn : ∀ t ∈ S, ∀ H1, (H1 t.2.1 = some (.lst (t.2.2.map V.str)) ∨ H1 t.2.1 = some (.tup (t.2.2.map V.str))) → ∀ D' : Ends, (∀ H2, Ex H1 H2 → D'.nx (σ.set i (some (.ref t.2.1))) H2) → tb D' (σ.set i (some (.ref t.2.1))) H1) (k : ∀ y H1, Ex H H1 → u D (σ.set i y) H1) :
    tSeq (tLock (tFor (iVals (tVar m)) (gName i) tb)) u D σ H := by
  refine ⟨d, scO S, h.at_, True.intro, fun od => ?_⟩
  have rows : ∀ t ∈ S, upd H d (.frz od (scO S)) t.2.1 = some (.lst (t.2.2.map V.str)) ∨ upd H d (.frz od (scO S)) t.2.1 = some (.tup (t.2.2.map V.str)) := fun t ht => by
    rw [upd_ne (h.ne t ht)]
    exact h.row t ht
  have hf : upd H d (.frz od (scO S)) d = some (.frz od (scO S)) := upd_same
  have back : ∀ H', Ex (upd H d (.frz od (scO S))) H' → Ex H (upd H' d (scO S)) := fun H' e b o hb => by
    by_cases c : b = d
    · rw [c, upd_same, ← h.at_, ← c]
      exact hb
    · rw [upd_ne c]
      exact e _ _ (by rw [upd_ne c]; exact hb)
  generalize upd H d (.frz od (scO S)) = Hf at rows hf back ⊢
  refine ⟨_, hd, d, od, _, rfl, hf, for_it walk_values (fun n o H' => Ex Hf H' ∧ ∃ y, o = σ.set i y) ⟨Ex.refl Hf, h0⟩ (fun n o H' _ q => q.1 _ _ hf) (fun n x o H' H2 hn q y => ?_) (fun o H' q => ?_)⟩
  · obtain ⟨e, z, rfl⟩ := q
    obtain ⟨rfl, ky, hk⟩ := y
    rw [List.getElem?_map] at hk
    obtain ⟨t, ht, et⟩ := Option.map_eq_some_iff.mp hk
    have et2 := (Prod.mk.inj et).2
    subst et2
    show tb _ ((σ.set i z).set i (some (.ref t.2.1))) H2
    rw [List.set_set]
    exact turn t (List.mem_of_getElem? ht) H2 ((rows t (List.mem_of_getElem? ht)).imp (e _ _) (e _ _)) _ fun H3 e3 => ⟨e.trans e3, _, rfl⟩
  · obtain ⟨e, z, rfl⟩ := q
    exact ⟨e _ _ hf, k z _ (back _ e)⟩
end
end K06

set_option Elab.async false
set_option linter.all false
set_option maxRecDepth 100000
set_option maxHeartbeats 4000000
/-! Table.flat: the def. -/
namespace K06
open PySem PySem.Spec PyProof.Rows L2 Cm
open DtE (TRow tents lookT)
open Tb (key2 PairK wk TblAt TblC Tab TabAt rowsO tmeth firsts wrow)
open Fk (NameV nameB srt srt_perm ents spSeq spAll AmtV)
open EvP (Ex All2 is Gives)
abbrev rowU (w : Int) (ns : List Str) : Fk.Row := (firsts ns).map fun u => (u, w)
theorem firsts_snoc (l : List Str) (n : Str) : firsts (l ++ [n]) = if n ∈ firsts l then firsts l else firsts l ++ [n] := by
  unfold firsts
  rw [List.foldl_append]
  rfl
theorem walks_seq {K : PySem.W.Frag} {σ : L2.St} {H : Hp} {m : Nat} {a : Addr} {xs : List V} (hm : σ[m]? = some (some (.ref a))) (h : H a = some (.lst xs) ∨ H a = some (.tup xs)) : Walks (Fk.iSeq K (tVar m)) σ H xs := fun H1 e R r =>
  h.elim (fun h => .inl (walks_list (EvP.varP hm ⟨a, rfl, h⟩) H1 e R r)) fun h => .inr (walks_tup (EvP.varP hm ⟨a, rfl, h⟩) H1 e R r)
section
variable {σ : L2.St} {H : Hp} {tv : TE} {wi : TI} {vs : List Nat} {i : Nat}
/-- {n: w for n in names}, a name perhaps twice -/
theorem comp_dictD {ss : List Str} {w : Int} (hw : Walks wi σ H (ss.map V.str)) (hz : ss.length ≤ 1000) (hi : i < σ.length) (wp : ∀ x, wipe ((wipe σ vs).set i (some x)) vs = wipe σ vs)
    (he : ∀ n ∈ ss, Gives tv ((wipe σ vs).set i (some (.str n))) H (is (.int w))) : Gives (tDc wi (gName i) tYes (tVar i) tv vs) σ H (dictN H (ents (rowU w ss))) := fun H1 e1 Q q => by
  refine hw H1 e1 _ fun J H2 e2 ⟨G, wk, g⟩ D hD => ?_
  have lw : (wipe σ vs).length = σ.length := wipe_length σ vs
  rw [List.length_map] at wk
  refine dc_walk wk (fun j H' => H' D = some (.dK (ents (rowU w (ss.take j)))) ∧ Ex H2 H') ⟨by rw [List.take_zero]; exact upd_same, Ex.new hD⟩ (fun j H' _ ⟨_, e3⟩ => g _ e3) (fun j x H' H'' hj ⟨a1, a2⟩ y => ?_) (fun H' ⟨a1, a2⟩ => ?_)
  · obtain ⟨rfl, hx⟩ := y
    rw [List.getElem?_map] at hx
    obtain ⟨n, hn, rfl⟩ := Option.map_eq_some_iff.mp hx
    have eH := (e1.trans e2).trans a2
    refine ⟨wp _, .str n, by rw [List.getElem?_set_self (by rw [lw]; exact hi)], he n (List.mem_of_getElem? hn) _ eH _ fun v H4 e4 hv => ⟨_, Sum.inr n, rfl, e4 _ _ a1, ?_, ?_, fun b o hb => ?_⟩⟩
    · unfold ents rowU
      rw [List.length_map, List.length_map, sizeLine_eq]
      have l := Tb.firsts_len (ss.take j) []
      rw [List.length_nil, List.length_take] at l
      unfold firsts
      omega
    · rw [upd_same, show v = V.int w from hv, putR_ents, List.take_add_one, hn, Option.toList_some]
      unfold rowU putR
      rw [firsts_snoc, List.map_map, show ((fun x : Str × Int => x.1) ∘ fun u => (u, w)) = id from rfl, List.map_id]
      by_cases c : n ∈ firsts (ss.take j)
      · rw [if_pos c, if_pos c, List.map_map]
        refine congrArg (fun l => some (HO.dK (ents l))) (List.map_congr_left fun u _ => ?_)
        show (if u = n then (u, w) else (u, w)) = (u, w)
        split <;> rfl
      · rw [if_neg c, if_neg c, List.map_append]
        rfl
    · rw [upd_ne (ne_of_none hb hD)]
      exact e4 _ _ (a2 _ _ hb)
  · rw [List.take_length] at a1
    exact q _ _ (e2.trans a2) ⟨D, rfl, a1, (e1.trans e2).back hD⟩
end
def rowsU (S : Sc) (w : Int) : List (Str × Fk.Row) := S.map fun t => (t.1, rowU w t.2.2)
section
variable {K : PySem.W.Frag} {H : Hp}
/-- {source: {use: worth for use in row} for source, row in scopes.items()} -/
theorem comp_flat {d : Addr} {S : Sc} {w : Int} {y : Option V} (h : ScAt H d S) (ok : ScOk S) :
    Gives (tLockE (tDc (iItems (tVar 0)) (gTup K 2 (gCons (gName 3) (gCons (gName 4) gNil))) tYes (tVar 3) (tDc (Fk.iSeq K (tVar 4)) (gName 5) tYes (tVar 5) (tVar 1) [5]) [3, 4])) [some (.ref d), some (.int w), y, none, none, none] H (tabNR H (rowsU S w)) := fun H0 e0 Q q => by
  refine ⟨d, scO S, e0 _ _ h.at_, True.intro, fun od => ?_⟩
  have h := h.ex e0
  have rows : ∀ t ∈ S, upd H0 d (.frz od (scO S)) t.2.1 = some (.lst (t.2.2.map V.str)) ∨ upd H0 d (.frz od (scO S)) t.2.1 = some (.tup (t.2.2.map V.str)) := fun t ht => by
    rw [upd_ne (h.ne t ht)]
    exact h.row t ht
  have hf : upd H0 d (.frz od (scO S)) d = some (.frz od (scO S)) := upd_same
  have back : ∀ H', Ex (upd H0 d (.frz od (scO S))) H' → Ex H0 (upd H' d (scO S)) := fun H' e b o hb => by
    by_cases c : b = d
    · rw [c, upd_same, ← h.at_, ← c]
      exact hb
    · rw [upd_ne c]
      exact e _ _ (by rw [upd_ne c]; exact hb)
  have new0 : ∀ a, upd H0 d (.frz od (scO S)) a = none → H0 a = none ∧ a ≠ d := fun a ha => by
    have ne : a ≠ d := fun z => by
      rw [z, upd_same] at ha
      cases ha
    rw [upd_ne ne] at ha
    exact ⟨ha, ne⟩
  generalize upd H0 d (.frz od (scO S)) = H1 at rows hf back new0 ⊢
  refine ⟨_, rfl, d, od, _, rfl, hf, fun D hD => ?_⟩
  have fewS := ok.few
  have wi := walk_items (d := d) (o := od) (kvs := S.map fun t => ((Sum.inr t.1 : Key), V.ref t.2.1))
  rw [List.length_map] at wi
  have nodS := ok.nod
  refine dc_walk wi (fun j H' => ∃ T : Tab, H' D = some (.dK (T.map fun t => (Sum.inr t.1, V.ref t.2.1))) ∧ T.map (fun t => (t.1, t.2.2)) = rowsU (S.take j) w ∧ (T.map (·.2.1)).Nodup ∧ (∀ t ∈ T, H' t.2.1 = some (.dK (ents t.2.2)) ∧ t.2.1 ≠ D ∧ H1 t.2.1 = none) ∧ Ex H1 H')
    ⟨[], upd_same, by rw [List.take_zero]; rfl, List.nodup_nil, (fun t ht => nomatch ht), Ex.new hD⟩ (fun j H' _ ⟨_, _, _, _, _, e3⟩ => e3 _ _ hf) (fun j x H' H'' hj ⟨T, a1, a2, a3, a4, a5⟩ yy => ?_) (fun H' ⟨T, a1, a2, a3, a4, a5⟩ => ?_)
  · obtain ⟨P, y1, y2, rfl, nP, rfl, hy1, hy2⟩ := yy
    obtain ⟨t, ht⟩ : ∃ t, S[j]? = some t := ⟨S[j], List.getElem?_eq_getElem hj⟩
    have mt := List.mem_of_getElem? ht
    simp only [List.getElem?_map, ht, Option.map_some, Option.some.injEq] at hy1 hy2
    subst hy1 hy2
    have eP := Ex.new (o := .tup [kV (Sum.inr t.1), V.ref t.2.1]) nP
    have a1' := eP _ _ a1
    have a5' := a5.trans eP
    have a4' : ∀ z ∈ T, upd H' P (.tup [kV (Sum.inr t.1), V.ref t.2.1]) z.2.1 = some (.dK (ents z.2.2)) ∧ z.2.1 ≠ D ∧ H1 z.2.1 = none := fun z hz => ⟨eP _ _ (a4 z hz).1, (a4 z hz).2⟩
    have hP : upd H' P (.tup [kV (Sum.inr t.1), V.ref t.2.1]) P = some (.tup [.str t.1, V.ref t.2.1]) := upd_same
    generalize upd H' P (.tup [kV (Sum.inr t.1), V.ref t.2.1]) = H4 at a1' a4' a5' hP
    clear a1 a4 a5 eP
    refine ⟨P, _, rfl, SqT.of hP, rfl, _, _, rfl, _, _, rfl, rfl, ⟨rfl, ?_⟩⟩
    refine ⟨.str t.1, rfl, ?_⟩
    have ro := ok.row t mt
    refine comp_dictD (σ := [some (.ref d), some (.int w), y, some (.str t.1), some (.ref t.2.1), none]) (vs := [5]) (i := 5) (ss := t.2.2) (walks_seq rfl ((rows t mt).imp (a5' _ _) (a5' _ _))) (by omega) (by show 5 < 6; decide) (fun _ => rfl) (fun n _ => EvP.varP rfl rfl) H4 (Ex.refl _) _ fun v H5 e5 hv => ?_
    obtain ⟨ra, rfl, hra, fra⟩ := hv
    have nD : ra ≠ D := fun z => by
      rw [z, a1'] at fra
      cases fra
    have a1'' := e5 _ _ a1'
    have lT : T.length = (S.take j).length := by
      have := congrArg List.length a2
      unfold rowsU at this
      rwa [List.length_map, List.length_map] at this
    refine ⟨_, Sum.inr t.1, rfl, a1'', ?_, T ++ [(t.1, ra, rowU w t.2.2)], ?_, ?_, ?_, fun t' ht' => ?_, fun b o hb => ?_⟩
    · rw [List.length_map, lT, List.length_take, sizeLine_eq]
      omega
    · have new : valV (T.map fun t => ((Sum.inr t.1 : Key), V.ref t.2.1)) (Sum.inr t.1) = none := by
        have no : ¬ ((T.map fun t => ((Sum.inr t.1 : Key), V.ref t.2.1)).any fun kv => decide (kv.1 = Sum.inr t.1)) = true := by
          intro y
          obtain ⟨p, hp, ep⟩ := List.any_eq_true.mp y
          obtain ⟨m, hm, rfl⟩ := List.mem_map.mp hp
          have e : m.1 = t.1 := Sum.inr.inj (of_decide_eq_true ep)
          have mm : (m.1, m.2.2) ∈ rowsU (S.take j) w := by
            rw [← a2]
            exact List.mem_map.mpr ⟨m, hm, rfl⟩
          obtain ⟨z, hz2, ez⟩ := List.mem_map.mp mm
          have ez1 : z.1 = t.1 := (Prod.mk.inj ez).1.trans e
          have hj1 : (S.map (·.1))[j]? = some t.1 := by
            rw [List.getElem?_map, ht]
            rfl
          refine take_no nodS hj1 ?_
          rw [← List.map_take, ← ez1]
          exact List.mem_map.mpr ⟨z, hz2, rfl⟩
        rw [valV_any] at no
        simpa using no
      rw [upd_same, putK_new _ new, List.map_append]
      rfl
    · unfold rowsU
      rw [List.map_append, a2, List.take_add_one, ht]
      unfold rowsU
      rw [Option.toList_some, List.map_append]
      rfl
    · rw [List.map_append, List.nodup_append]
      refine ⟨a3, List.nodup_cons.mpr ⟨List.not_mem_nil, List.nodup_nil⟩, fun k hk k' hk' e => ?_⟩
      obtain ⟨t1, ht1, rfl⟩ := List.mem_map.mp hk
      obtain rfl := List.mem_singleton.mp hk'
      have := (a4' t1 ht1).1
      rw [e, fra] at this
      cases this
    · rcases List.mem_append.mp ht' with ht' | ht'
      · exact ⟨by rw [upd_ne (a4' t' ht').2.1]; exact e5 _ _ (a4' t' ht').1, (a4' t' ht').2⟩
      · obtain rfl := List.mem_singleton.mp ht'
        refine ⟨?_, nD, ?_⟩
        · rw [upd_ne nD]
          exact hra
        · cases hc : H1 ra with
          | none => rfl
          | some o =>
            rw [a5' _ _ hc] at fra
            cases fra
    · rw [upd_ne (ne_of_none hb hD)]
      exact e5 _ _ (a5' _ _ hb)
  · rw [List.take_length] at a2
    have hd' := a5 _ _ hf
    obtain ⟨D0, Dd⟩ := new0 D hD
    refine ⟨hd', q _ _ (back H' a5) ⟨D, T, rfl, ⟨by rw [upd_ne Dd]; exact a1, fun t ht => by rw [upd_ne (new0 _ (a4 t ht).2.2).2]; exact (a4 t ht).1⟩, a2, a3, e0.back D0, fun t ht => ⟨e0.back (new0 _ (a4 t ht).2.2).1, (a4 t ht).2.1⟩⟩⟩
end
theorem rowOf_in {S : Sc} (nod : (S.map (·.1)).Nodup) {t : Str × Addr × List Str} (h : t ∈ S) : rowOf S t.1 = t.2.2 := by
  unfold rowOf
  induction S with
  | nil => cases h
  | cons z S ih =>
    rw [List.map_cons, List.nodup_cons] at nod
    rw [List.find?_cons]
    rcases List.mem_cons.mp h with rfl | h
    · rw [decide_eq_true rfl]
      rfl
    · rw [decide_eq_false fun q : z.1 = t.1 => nod.1 (List.mem_map.mpr ⟨t, h, q.symm⟩)]
      exact ih nod.2 h
theorem rowOf_out {S : Sc} {a : Str} (h : a ∉ S.map (·.1)) : rowOf S a = [] := by
  unfold rowOf
  have : S.find? (fun t => decide (t.1 = a)) = none := List.find?_eq_none.mpr fun t ht q => h (List.mem_map.mpr ⟨t, ht, of_decide_eq_true q⟩)
  rw [this]
  rfl
theorem rowsU_eq {S : Sc} {w : Int} (nod : (S.map (·.1)).Nodup) : rowsU S w = (S.map (·.1)).map fun a => (a, rowFl S w a) := by
  unfold rowsU rowFl
  rw [List.map_map]
  refine List.map_congr_left fun t ht => ?_
  show (t.1, rowU w t.2.2) = (t.1, (firsts (rowOf S t.1)).map fun u => (u, w))
  rw [rowOf_in nod ht]
theorem mem_rowFl {S : Sc} {w : Int} {a : Str} {e : Str × Int} : e ∈ rowFl S w a ↔ e.1 ∈ rowOf S a ∧ e.2 = w := by
  unfold rowFl
  constructor
  · intro h
    obtain ⟨u, hu, rfl⟩ := List.mem_map.mp h
    exact ⟨mem_firsts.mp hu, rfl⟩
  · rintro ⟨h, q⟩
    exact List.mem_map.mpr ⟨e.1, mem_firsts.mpr h, by rw [← q]⟩
theorem rowFl_ok {S : Sc} {w : Int} {B : List Str} (ok : ScOk S) (w0 : 0 ≤ w) (hB : ∀ x, x ∈ B ↔ ∃ t ∈ S, x ∈ t.2.2) : ∀ a ∈ S.map (·.1), RowF B (rowFl S w a) := fun a ha => by
  refine ⟨?_, fun e he => ?_, fun e he => ?_⟩
  · unfold rowFl
    rw [List.map_map, show ((fun x : Str × Int => x.1) ∘ fun u => (u, w)) = id from rfl, List.map_id]
    exact firsts_nodup _
  · rw [(mem_rowFl.mp he).2]
    exact w0
  · obtain ⟨t, ht, rfl⟩ := List.mem_map.mp ha
    have h := (mem_rowFl.mp he).1
    rw [rowOf_in ok.nod ht] at h
    exact (hB _).mpr ⟨t, ht, h⟩
theorem rowFl_uses {S : Sc} {w : Int} {B : List Str} (ok : ScOk S) (hB : ∀ x, x ∈ B ↔ ∃ t ∈ S, x ∈ t.2.2) (x : Str) : x ∈ B ↔ x ∈ ([] : List Str) ∨ ∃ a ∈ S.map (·.1), ∃ e ∈ rowFl S w a, e.1 = x := by
  rw [hB]
  constructor
  · rintro ⟨t, ht, hx⟩
    exact .inr ⟨t.1, List.mem_map.mpr ⟨t, ht, rfl⟩, (x, w), mem_rowFl.mpr ⟨by rw [rowOf_in ok.nod ht]; exact hx, rfl⟩, rfl⟩
  · rintro (h | ⟨a, ha, e, he, rfl⟩)
    · cases h
    · obtain ⟨t, ht, rfl⟩ := List.mem_map.mp ha
      have h := (mem_rowFl.mp he).1
      rw [rowOf_in ok.nod ht] at h
      exact ⟨t, ht, h⟩
theorem flatG_val {S : Sc} {w : Int} : ∀ a ∈ S.map (·.1), ∀ e ∈ rowFl S w a, flatG S w (key2 a e.1) = e.2 := fun a _ e he => by
  show (if e.1 ∈ rowOf S a then w else 0) = e.2
  obtain ⟨h, q⟩ := mem_rowFl.mp he
  rw [if_pos h, q]
theorem flatG_out {S : Sc} {w : Int} : ∀ k, (¬ ∃ a ∈ S.map (·.1), ∃ e ∈ rowFl S w a, k = key2 a e.1) → flatG S w k = 0 := fun k h => by
  match k, h with
  | [], _ => rfl
  | [Sum.inl _], _ => rfl
  | [Sum.inr _], _ => rfl
  | [Sum.inl _, Sum.inl _], _ => rfl
  | [Sum.inl _, Sum.inr _], _ => rfl
  | [Sum.inr _, Sum.inl _], _ => rfl
  | Sum.inl _ :: _ :: _ :: _, _ => rfl
  | Sum.inr _ :: Sum.inl _ :: _ :: _, _ => rfl
  | Sum.inr _ :: Sum.inr _ :: _ :: _, _ => rfl
  | [Sum.inr a, Sum.inr x], h =>
    show (if x ∈ rowOf S a then w else 0) = 0
    by_cases c : x ∈ rowOf S a
    · refine absurd ⟨a, ?_, (x, w), mem_rowFl.mpr ⟨c, rfl⟩, rfl⟩ h
      refine Classical.byContradiction fun z => ?_
      rw [rowOf_out z] at c
      cases c
    · exact if_neg c
def scInF : Scope := { kind := ScopeKind.function, names := [(Str.ofString ".0", NameKind.local), (Str.ofString "source", NameKind.local), (Str.ofString "row", NameKind.local), (Str.ofString "worth", NameKind.cell)], isGenerator := false, isCoroutine := false }
section
variable {P : Program} {w : World} {K : PySem.W.Frag} {mg : Str → Option Value} {base : Heap} {C f fI fR fN fW aE : Addr} {fd fdI fdR fdN fdW : FuncData} {dvs : List V} {kws : List (Str × V)} {ds : List Value}
theorem ok_flat (F : FunD K "flat" "Table.flat" (defArgs sFlat) (defBody sFlat) (defScope sFlat) dvs kws f fd) (T : Fk.Blt mg) (R : Fk.BltR mg) (hD : mg "dict" = none) (hA : mg "all" = none)
    (GR : FnOk P w K mg base CX0 1 fR fdR ["value"] (Fk.spRow K)) (bR : Binds K fdR ["value"] []) (gR : mg "is_row" = some (.ref fR)) (kR : PySem.W.keepIn K (.ref fR) = true)
    (GN : FnOk P w K mg base CX0 2 fN fdN ["values"] (spSeq K NameV)) (bN : Binds K fdN ["values"] []) (gN : mg "check_names" = some (.ref fN)) (kN : PySem.W.keepIn K (.ref fN) = true)
    (GW : FnOk P w K mg base CX0 3 fW fdW ["values"] (spAll K AmtV)) (bW : Binds K fdW ["values"] []) (gW : mg "check_worths" = some (.ref fW)) (kW : PySem.W.keepIn K (.ref fW) = true)
    (MK : Mk K C fI) (GI : XG.FnG P w K mg base CX0 5 fI fdI ["self", "rows", "uses"] (Tb.spTI K C)) (bI : Binds K fdI ["self", "rows", "uses"] ds) (hds : Vals [V.ref aE] ds) (hE : ∀ H, SqT K H aE []) (gT : mg "Table" = some (.ref C)) :
    XG.FnG P w K mg base CX0 7 f fd ["scopes", "worth"] (spFlat C) := by
  have nd := scFlat.nd
  refine Tb.FunD.okG F scFlat spFlat_len fun cdv A outer s H vs Q E gd hr h => ?_
  obtain ⟨d, S, wo, B, rfl, hS, ok, w0, nB, hB, q⟩ := h
  refine ⟨_, pss_cons (ps_if (PW.pt (pw_or (pt_not (pt_val (pe_callB call_isi (by rfl) T.isi (by decide +kernel) (pa_cons (pv 0) (pa_cons (pe_bltn (v := .ty "dict") (by rfl) hD (by decide +kernel) rfl) pa_nil)))))
      (pw_or1 (pt_not (pt_val (pe_callB (cr_all rfl) (by rfl) hA (by decide +kernel) (pa_cons (pe_lockL (pe_lc (own := [("uses", 2)]) (g := gName 2) (tt := tYes) (te := tCall (Fk.spRow K) [] E0 (tCons (tVar 2) tNil)) rfl nd (pi_values (pv 0)) (blkOk_by (N := NFl) (sc := defScope sFlat) (by decide +kernel))
          (fun _ _ _ _ _ => pg_name (i := 2) nd rfl (Or.inl rfl)) (fun _ _ _ _ _ => pts_nil) (fun _ _ _ _ _ => pe_call GR (hr.mono (by decide)) (by rfl) gR kR bR .nil pass0 (pa_cons (pv 2) pa_nil)))) pa_nil))))))) (pss_one Fk.ps_dead) pss_nil)
    (pss_cons (ps_expr (pe_call GN (hr.mono (by decide)) (by rfl) gN kN bN .nil pass0 (pa_cons (pe_callTy (T := "list") (call_listD rfl) (by rfl) R.list (by decide +kernel) (pa_cons (pv 0) pa_nil)) pa_nil)))
    (pss_cons (ps_lock (ps_for PassesOwn.never rfl (pi_values (pv 0)) (pg_name (i := 2) nd rfl (Or.inl rfl))
      (pss_one (ps_expr (pe_call GN (hr.mono (by decide)) (by rfl) gN kN bN .nil pass0 (pa_cons (pv 2) pa_nil))))))
    (pss_cons (ps_expr (pe_call GW (hr.mono (by decide)) (by rfl) gW kW bW .nil pass0 (pa_cons (pe_lst (pa_cons (pv 1) pa_nil)) pa_nil)))
    (pss_one (ps_ret (XG.pe_makeGD MK GI Tb.spTI_len gd hr bI hds (by rfl) gT (pa_cons
      (pe_lock (pe_dc (own := [("source", 3), ("row", 4)]) (g := gTup K 2 (gCons (gName 3) (gCons (gName 4) gNil))) (tt := tYes) (tk := tVar 3) (tv := tDc (Fk.iSeq K (tVar 4)) (gName 5) tYes (tVar 5) (tVar 1) [5]) rfl nd (by exact pi_items (pv 0)) (blkOk_by (N := NFl) (sc := defScope sFlat) (by decide +kernel))
        (fun _ _ _ _ _ => by exact pg_tup rfl (pgs_cons (pg_name (i := 3) nd rfl (Or.inl rfl)) (pgs_cons (pg_name (i := 4) nd rfl (Or.inl rfl)) pgs_nil))) (fun _ _ _ _ _ => pts_nil) (fun _ _ _ _ _ => pv 3) (fun _ _ _ _ _ => by
          refine pe_dc (own := [("use", 5)]) (wi := Fk.iSeq K (tVar 4)) (g := gName 5) (tt := tYes) (tk := tVar 5) (tv := tVar 1) rfl nd (Fk.pi_seq (pv 4)) (blkOk_by (N := NFl) (sc := scInF) (by decide +kernel))
            (fun _ _ _ _ _ => pg_name (i := 5) nd rfl (Or.inl rfl)) (fun _ _ _ _ _ => pts_nil) (fun _ _ _ _ _ => pv 5) (fun _ _ _ _ _ => pv 1)))) pa_nil))))))), ?_⟩
  have all : Gives (tCB (rAll K) (tCons (tLockL (tLc (iVals (tVar 0)) (gName 2) tYes (tCall (Fk.spRow K) [] E0 (tCons (tVar 2) tNil)) [2])) tNil)) [some (.ref d), some (.int wo), none, none, none, none] H (is (.bl true)) := by
    refine Tb.g_allT (n := S.length) (Tb.g_lockL (ds := [(d, scO S)]) (by simp) (fun p hp => ?_) fun H1 e1 Hf fr => ?_)
    · rw [List.mem_singleton.mp hp]
      exact ⟨hS.at_, True.intro⟩
    · obtain ⟨⟨od, f1⟩, f2⟩ := froz_sc (hS.ex e1) fr
      have fs := ok.few
      have w := comp_is (i := 2) (vs := [2]) (te := tCall (Fk.spRow K) [] E0 (tCons (tVar 2) tNil)) (tt := tYes) (σ := [some (.ref d), some (.int wo), none, none, none, none]) (H := Hf) (fun _ => true) (fun _ => V.bl true) (walks_vals (m := 0) rfl f1)
        (by rw [List.length_map, List.length_map]; omega) (fun _ => rfl) (fun _ _ H2 _ Q h => h) (fun y hy _ => fun H2 e2 Q q => ?_)
      · rw [List.filter_eq_self.mpr (fun _ _ => rfl), List.map_map, List.map_map, show ((fun _ => V.bl true) ∘ (fun x : Key × V => x.2)) ∘ (fun t : Str × Addr × List Str => ((Sum.inr t.1 : Key), V.ref t.2.1)) = fun _ => V.bl true from rfl, List.map_const'] at w
        exact w
      · rw [List.map_map] at hy
        obtain ⟨t, ht, rfl⟩ := List.mem_map.mp hy
        exact ⟨_, rfl, t.2.1, _, rfl, (f2 t ht).elim (fun r => .inl (SqL.of (e2 _ _ r))) (fun r => .inr (SqT.of (e2 _ _ r))), fun H' k => q _ _ k rfl⟩
  refine ⟨_, rfl, _, _, _, _, true, rfl, .ty _, .base (.dK hS.at_), kit_ty (by decide +kernel), _, rfl, ?_⟩
  refine all H (Ex.refl H) _ fun v H1 e1 ev => ?_
  cases (show v = .bl true from ev)
  refine ⟨_, rfl, ?_⟩
  dsimp only [Bool.not_true, tNext]
  rw [if_neg (show ¬ (!true) = true by decide)]
  refine ⟨_, rfl, d, _, rfl, .inl (e1 _ _ hS.at_), fun p1 h1 => ⟨p1, _, rfl, .inl (SqL.of upd_same), fun y hy => ?_, ?_⟩⟩
  · rw [List.map_map] at hy
    obtain ⟨t, ht, rfl⟩ := List.mem_map.mp hy
    exact ok.nm t ht
  have e2 := e1.trans (Ex.new (o := .lst ((S.map fun t => ((Sum.inr t.1 : Key), V.ref t.2.1)).map fun kv => kV kv.1)) h1)
  generalize upd H1 p1 (.lst ((S.map fun t => ((Sum.inr t.1 : Key), V.ref t.2.1)).map fun kv => kV kv.1)) = H2 at e2 ⊢
  refine st_forSc (σ := [some (.ref d), some (.int wo), none, none, none, none]) (m := 0) (i := 2) rfl (hS.ex e2) ⟨none, rfl⟩ (fun t ht H4 h4 D' k => ?_) fun y H5 e5 => ?_
  · refine ⟨_, rfl, t.2.1, _, rfl, h4.elim (fun r => .inl (SqL.of r)) (fun r => .inr (SqT.of r)), fun y hy => ?_, k _ (Ex.refl _)⟩
    obtain ⟨n, hn, rfl⟩ := List.mem_map.mp hy
    exact (ok.row t ht).1 n hn
  have e6 := e2.trans e5
  refine ⟨_, rfl, by show 1 ≤ sizeLine; decide, fun p2 h2 => ⟨p2, [.int wo], rfl, SqL.of upd_same, fun y hy => ?_, ?_⟩⟩
  · rw [List.mem_singleton.mp hy]
    exact ⟨wo, rfl, w0⟩
  have e7 := e6.trans (Ex.new (o := .lst [.int wo]) h2)
  generalize upd H5 p2 (.lst [.int wo]) = H7 at e7 ⊢
  refine comp_flat (K := K) (y := y) (w := wo) (hS.ex e7) ok H7 (Ex.refl _) _ fun v H8 e8 hv => ?_
  obtain ⟨c, Tt, rfl, hT, eT, nod, _⟩ := hv.ex
  rw [rowsU_eq ok.nod] at eT
  show ∀ x dx, _
  exact go_makeF (us := []) hT eT nod (.inr (hE _)) (by decide) (fun n hn => nomatch hn) ⟨ok.nod, fun n hn => (by obtain ⟨t, ht, rfl⟩ := List.mem_map.mp hn; exact ok.nm t ht), by rw [List.length_map]; exact ok.few⟩ nB (rowFl_ok ok w0 hB) (rowFl_uses ok hB) flatG_val flatG_out fun v H9 e9 t9 => q v H9 ((e7.trans e8).trans e9) t9
end
end K06

set_option Elab.async false
set_option linter.all false
set_option maxRecDepth 100000
set_option maxHeartbeats 4000000
/-! Methods whose defs keep their promise while no object is being shown; *names; keywords; ~o. -/
namespace XG
open PySem PySem.Spec PyProof.Rows L2
section
variable {P : Program} {w : World} {K : PySem.W.Frag} {mg : Str → Option Value} {base : Heap} {k : Nat} {f : Addr} {name qual : Str} {params : Arguments} {body : List Stmt} {scope : Scope} {dV kV doc pm cdv ct oc : Value} {an od : Option Addr}
  {osl : Array (Option Value)} {N ps : List Str} {sp : Sp}
def FnRG (P : Program) (w : World) (K : PySem.W.Frag) (mg : Str → Option Value) (base : Heap) (k : Nat) (f : Addr) (sp : Sp) : Prop :=
  ∀ (A : Around) (outer : List Env) (s : Shared) (H : Hp) (us : List Value) (vs : List V) (Q : VK) (E : XK), A.guards = some [] → Room k A → Env0 P w K mg base A outer s H → Vals vs us → sp vs H Q E →
    codeAny (model P w) A (.call (.ref f) ⟨us, []⟩) (CR CX0 outer P w H s Q E) s
/-- def f(a, .., *v): what is left over is a new tuple -/
theorem fn_starG {pv : Str} (lk : K.lookup f = some ⟨oc, od, .func (PySem.W.fnOf name qual params body scope dV kV doc pm an cdv ct), osl⟩) (hcd : PySem.W.codeIn K cdv qual = true) (S : FnScope N (ps ++ [pv]) scope)
    (hb : ∀ us rest : List Value, us.length = ps.length → bindArgs (PySem.W.fnOf name qual params body scope dV kV doc pm an cdv ct) ⟨us ++ rest, []⟩ = (newTuple rest >>= fun t => pure (ps.zip us ++ [(pv, t)])))
    (hbody : ∀ (A : Around) (outer : List Env) (s : Shared) (H : Hp) (vs : List V) (Q : VK) (E : XK), A.guards = some [] → Room k (A.deeper (envOfC qual scope s.heap.objs.size f cdv)) → sp vs H Q E →
      ∃ t, PSs (cxOf CX0 P w K mg base N qual scope f cdv A outer s H E).nox body t ∧ t { nx := fun _ H' => Q .non H', rt := Q } (start N vs) H) :
    FnRG P w K mg base (k + 1) f (fun vs H Q E => ∃ ws rest, vs = ws ++ rest ∧ ws.length = ps.length ∧ rest.length ≤ sizeLine ∧ ∀ p, H p = Option.none → sp (ws ++ [V.ref p]) (upd H p (.tup rest)) Q E) := by
  intro A outer s H us vs Q E gd hr e0 r hsp
  obtain ⟨ws, rest, ev, hl, hz, hq⟩ := hsp
  subst ev
  obtain ⟨u1, u2, eu, r1, r2⟩ := StX.vals_split r
  subst eu
  have hn : H s.heap.objs.size = Option.none := e0.hok.fresh (Nat.le_refl _)
  have hl1 : u1.length = ps.length := by rw [← r1.length]; exact hl
  have hl2 : u2.length ≤ sizeLine := by rw [← r2.length]; exact hz
  refine StX.run_bnd lk hcd S hr e0 (G := fun xs H2 => ∃ p, H p = Option.none ∧ xs = ws ++ [V.ref p] ∧ H2 = upd H p (.tup rest)) (fun A' Ex Q' h => ?_) fun s2 H2 xs ⟨p, hp, ex, eH⟩ hr' => ?_
  · rw [hb u1 u2 hl1]
    refine wpAny_bind (wpAny_newTuple (wpAny_pure ?_) hl2)
    have new : ObjOk P w (upd H s.heap.objs.size (.tup rest)) (s.heap.push ({ cls := .type "tuple", data := .seq u2.toArray } : Obj)) s.heap.objs.size (.tup rest) := ⟨hz, u2, r2, ⟨_, Heap.get?_push_size _ rfl, rfl, _, rfl⟩⟩
    have un := StX.un_laid (fs := frs outer) (s := s) (o := ({ cls := .type "tuple", data := .seq u2.toArray } : Obj)) (u := .tup rest) hn
    have z := h _ _ (ws ++ [V.ref s.heap.objs.size]) (u1 ++ [Value.ref s.heap.objs.size]) (StX.env0_laid e0 new) un rfl (fun e s' z => z.elim) (r1.append (.cons rfl .nil))
      (by rw [List.length_append, List.length_append, hl] <;> rfl) ⟨_, hn, rfl, rfl⟩
    rw [List.zip_append hl1.symm] at z
    exact z
  · subst ex eH
    obtain ⟨t, a, b⟩ := hbody A outer s2 _ _ Q E gd hr' (hq p hp)
    exact ⟨t, a.nox, b⟩
end
section
variable {X : Cx} {k : Nat} {C f p g : Addr} {fd : FuncData} {ps ks : List Str} {mc : Value} {sp : Sp} {o e : Expr} {es : List Expr} {m : Str} {pos apos : Pos} {ta : TE} {t tk : TA} {pl : Sem Bool} {kws : List Keyword} {gg : List Value → List Value → List Value} {gV : List V → List V → List V}
theorem run_fnG {pins : List (Addr × Obj)} {σ : L2.St} {H : Hp} {s : Shared} {Q : VK} {us : List Value} {vs : List V} (F : FnG X.prog X.w X.K X.mg X.base CX0 k f fd ps sp) (len : ∀ vs H Q E, sp vs H Q E → vs.length = ps.length) (gd : X.A.guards = some []) (hr : Room k X.A) (hb : Binds X.K fd ps [])
    (I : Inv X pins σ H s) (r : Vals vs us) (h : sp vs H Q E0) : wpAny (model X.prog X.w) X.A (call (.ref f) us) (EP X pins σ Q) X.xe s := by
  have n : (us ++ []).length = ps.length := by rw [List.append_nil, ← r.length]; exact len _ _ _ _ h
  refine wpAny_call (codeAny_mono (F X.A X.stack s H ⟨us, []⟩ (us ++ []) vs Q E0 gd hr I.env0 (hb s us I.kIn n) (by rw [List.append_nil]; exact r) h) fun r' s' z => ?_)
  cases r' with
  | error e => exact (show False from z).elim
  | ok fl => cases fl with
    | ret u => exact I.after z
    | _ => exact (show False from z).elim
theorem run_fnkG {pins : List (Addr × Obj)} {σ : L2.St} {H : Hp} {s : Shared} {Q : VK} {us ws : List Value} {vs zs : List V} (F : FnG X.prog X.w X.K X.mg X.base CX0 k f fd ps sp) (len : ∀ vs H Q E, sp vs H Q E → vs.length = ps.length) (gd : X.A.guards = some []) (hr : Room k X.A) (hb : KBinds X.K fd ps ks gg gV)
    (I : Inv X pins σ H s) (r : Vals vs us) (rz : Vals zs ws) (h : sp (gV vs zs) H Q E0) : wpAny (model X.prog X.w) X.A (call (.ref f) us (ks.zip ws)) (EP X pins σ Q) X.xe s := by
  have r2 := hb.rel r rz
  have hl : (gg us ws).length = ps.length := by rw [← r2.length]; exact len _ _ _ _ h
  refine wpAny_call (codeAny_mono (F X.A X.stack s H ⟨us, ks.zip ws⟩ (gg us ws) (gV vs zs) Q E0 gd hr I.env0 (hb.to s us ws I.kIn hl) r2 h) fun r' s' z => ?_)
  cases r' with
  | error e => exact (show False from z).elim
  | ok fl => cases fl with
    | ret u => exact I.after z
    | _ => exact (show False from z).elim
theorem run_fnrG {pins : List (Addr × Obj)} {σ : L2.St} {H : Hp} {s : Shared} {Q : VK} {us : List Value} {vs : List V} (F : FnRG X.prog X.w X.K X.mg X.base k f sp) (gd : X.A.guards = some []) (hr : Room k X.A)
    (I : Inv X pins σ H s) (r : Vals vs us) (h : sp vs H Q E0) : wpAny (model X.prog X.w) X.A (call (.ref f) us) (EP X pins σ Q) X.xe s := by
  refine wpAny_call (codeAny_mono (F X.A X.stack s H us vs Q E0 gd hr I.env0 r h) fun r' s' z => ?_)
  cases r' with
  | error e => exact (show False from z).elim
  | ok fl => cases fl with
    | ret u => exact I.after z
    | _ => exact (show False from z).elim
/-- o.m(..) -/
def tMeG (C : Addr) (m : Str) (sp : Sp) (ta : TE) (t : TA) : TE := fun σ H Q => ta σ H fun x H1 => ∃ a dx fs, x = .ref a ∧ H1 a = some (.ins C dx fs) ∧ fs.lookup m = none ∧ t σ H1 fun vs H2 => sp (x :: vs) H2 Q E0
theorem pe_methG (he : PE X o ta) (c : Cls X.K C) (hm : Meth X.K C m f) (F : FnG X.prog X.w X.K X.mg X.base CX0 k f fd ps sp) (len : ∀ vs H Q E, sp vs H Q E → vs.length = ps.length) (gd : X.A.guards = some []) (hr : Room k X.A) (hb : Binds X.K fd ps []) (ha : PA X (e :: es) t)
    (hst : starEach (e :: es) X.env = (false, eval e X.env) :: starEach es X.env := by rfl) (hpl : (backTo pos (starEach es X.env)).any (·.1) = false := by rfl)
    (ht : eval (.Call (.Attribute o m apos) (e :: es) [] pos) X.env = (do
      let ov ← eval o X.env
      standAt apos.atName
      let (f, first) ← holding [ov] (getMethod ov m pl)
      callWith pos f first (backTo pos (starEach (e :: es) X.env)) (backToKw pos (keywordEach [] X.env))) := by rfl) :
    PE X (.Call (.Attribute o m apos) (e :: es) [] pos) (tMeG C m sp ta t) := by
  refine ⟨fun pins s σ H Q I h => ?_⟩
  refine PySem.W.methodCall_KW (pl := pl) (thn (he.run pins s σ H _ I h) fun u s1 ⟨x, H1, I1, rx, a, dx, fs, ex, ea, l, q⟩ => ?_) ht
  subst ex
  obtain rfl : u = Value.ref a := rx
  refine getmeth_ok I1 ea c hm l ?_
  refine PySem.W.callWith_K (first := [.ref a]) (h₀ := X.base) I.ok.mod.kin hm.kp (thn (ha.run pos pins s1 σ H1 _ I1 q) fun us s2 ⟨vs, H2, I2, r, q2⟩ => ⟨I2.kIn, ?_⟩) hst hpl
  exact run_fnG (us := .ref a :: us) (vs := .ref a :: vs) F len gd hr hb I2 (.cons rfl r) q2
theorem pe_methRG (he : PE X o ta) (c : Cls X.K C) (hm : Meth X.K C m f) (F : FnRG X.prog X.w X.K X.mg X.base k f sp) (gd : X.A.guards = some []) (hr : Room k X.A) (ha : PA X (e :: es) t)
    (hst : starEach (e :: es) X.env = (false, eval e X.env) :: starEach es X.env := by rfl) (hpl : (backTo pos (starEach es X.env)).any (·.1) = false := by rfl)
    (ht : eval (.Call (.Attribute o m apos) (e :: es) [] pos) X.env = (do
      let ov ← eval o X.env
      standAt apos.atName
      let (f, first) ← holding [ov] (getMethod ov m pl)
      callWith pos f first (backTo pos (starEach (e :: es) X.env)) (backToKw pos (keywordEach [] X.env))) := by rfl) :
    PE X (.Call (.Attribute o m apos) (e :: es) [] pos) (tMeG C m sp ta t) := by
  refine ⟨fun pins s σ H Q I h => ?_⟩
  refine PySem.W.methodCall_KW (pl := pl) (thn (he.run pins s σ H _ I h) fun u s1 ⟨x, H1, I1, rx, a, dx, fs, ex, ea, l, q⟩ => ?_) ht
  subst ex
  obtain rfl : u = Value.ref a := rx
  refine getmeth_ok I1 ea c hm l ?_
  refine PySem.W.callWith_K (first := [.ref a]) (h₀ := X.base) I.ok.mod.kin hm.kp (thn (ha.run pos pins s1 σ H1 _ I1 q) fun us s2 ⟨vs, H2, I2, r, q2⟩ => ⟨I2.kIn, ?_⟩) hst hpl
  exact run_fnrG (us := .ref a :: us) (vs := .ref a :: vs) F gd hr I2 (.cons rfl r) q2
theorem pe_methRG0 (he : PE X o ta) (c : Cls X.K C) (hm : Meth X.K C m f) (F : FnRG X.prog X.w X.K X.mg X.base k f sp) (gd : X.A.guards = some []) (hr : Room k X.A)
    (ht : eval (.Call (.Attribute o m apos) [] [] pos) X.env = (do
      let ov ← eval o X.env
      standAt apos.atName
      let (f, first) ← holding [ov] (getMethod ov m pl)
      callWith pos f first (backTo pos (starEach [] X.env)) (backToKw pos (keywordEach [] X.env))) := by rfl) :
    PE X (.Call (.Attribute o m apos) [] [] pos) (tMeG C m sp ta tNil) := by
  refine ⟨fun pins s σ H Q I h => ?_⟩
  refine PySem.W.methodCall_KW (pl := pl) (thn (he.run pins s σ H _ I h) fun u s1 ⟨x, H1, I1, rx, a, dx, fs, ex, ea, l, q⟩ => ?_) ht
  subst ex
  obtain rfl : u = Value.ref a := rx
  refine getmeth_ok I1 ea c hm l ?_
  exact PySem.W.callWith_K0 (first := [.ref a]) I1.kIn hm.kp (run_fnrG (us := [.ref a]) (vs := [.ref a]) F gd hr I1 (.cons rfl .nil) q)
/-- o.m(k = v, ..) -/
def tMeKG (C : Addr) (m : Str) (sp : Sp) (gV : List V → List V → List V) (ta : TE) (tk : TA) : TE := fun σ H Q => ta σ H fun x H1 => ∃ a dx fs, x = .ref a ∧ H1 a = some (.ins C dx fs) ∧ fs.lookup m = none ∧ tk σ H1 fun zs H2 => sp (gV [x] zs) H2 Q E0
theorem pe_methKG (he : PE X o ta) (c : Cls X.K C) (hm : Meth X.K C m f) (F : FnG X.prog X.w X.K X.mg X.base CX0 k f fd ps sp) (len : ∀ vs H Q E, sp vs H Q E → vs.length = ps.length) (gd : X.A.guards = some []) (hr : Room k X.A) (hb : KBinds X.K fd ps ks gg gV) (hkw : PK X kws tk)
    (hall : (backToKw pos (keywordEach kws X.env)).all (·.1.isSome) = true := by rfl) (hks : (backToKw pos (keywordEach kws X.env)).filterMap (·.1) = ks := by rfl)
    (hpl : ((backTo pos (starEach [] X.env)).any (·.1) || (backToKw pos (keywordEach kws X.env)).any (·.1.isNone)) = false := by rfl)
    (ht : eval (.Call (.Attribute o m apos) [] kws pos) X.env = (do
      let ov ← eval o X.env
      standAt apos.atName
      let (f, first) ← holding [ov] (getMethod ov m pl)
      callWith pos f first (backTo pos (starEach [] X.env)) (backToKw pos (keywordEach kws X.env))) := by rfl) :
    PE X (.Call (.Attribute o m apos) [] kws pos) (tMeKG C m sp gV ta tk) := by
  refine ⟨fun pins s σ H Q I h => ?_⟩
  refine PySem.W.methodCall_KW (pl := pl) (thn (he.run pins s σ H _ I h) fun u s1 ⟨x, H1, I1, rx, a, dx, fs, ex, ea, l, q⟩ => ?_) ht
  subst ex
  obtain rfl : u = Value.ref a := rx
  refine getmeth_ok I1 ea c hm l ?_
  refine PySem.W.callWith_KW0 (first := [.ref a]) (h₀ := X.base) I.ok.mod.kin hm.kp hall (thn (hkw.run pos pins s1 σ H1 _ I1 q) fun ws s2 ⟨zs, H2, I2, rz, q2⟩ => ⟨I2.kIn, ?_⟩) hpl
  rw [hks]
  exact run_fnkG (us := [.ref a]) (vs := [.ref a]) F len gd hr hb I2 (.cons rfl .nil) rz q2
/-- C.m(k = v, ..), m a static method -/
def tSMK (C : Addr) (sp : Sp) (gV : List V → List V → List V) (ta : TE) (tk : TA) : TE := fun σ H Q => ta σ H fun x H1 => x = .ref C ∧ tk σ H1 fun zs H2 => sp (gV [] zs) H2 Q E0
theorem pe_smKG (he : PE X o ta) (r : ClX.CRead X.K C mc) (c : K06.SMet X.K C mc m p g) (F : FnG X.prog X.w X.K X.mg X.base CX0 k g fd ps sp) (len : ∀ vs H Q E, sp vs H Q E → vs.length = ps.length) (gd : X.A.guards = some []) (hr : Room k X.A) (hb : KBinds X.K fd ps ks gg gV) (hkw : PK X kws tk)
    (hall : (backToKw pos (keywordEach kws X.env)).all (·.1.isSome) = true := by rfl) (hks : (backToKw pos (keywordEach kws X.env)).filterMap (·.1) = ks := by rfl)
    (hpl : ((backTo pos (starEach [] X.env)).any (·.1) || (backToKw pos (keywordEach kws X.env)).any (·.1.isNone)) = false := by rfl)
    (ht : eval (.Call (.Attribute o m apos) [] kws pos) X.env = (do
      let ov ← eval o X.env
      standAt apos.atName
      let (f, first) ← holding [ov] (getMethod ov m pl)
      callWith pos f first (backTo pos (starEach [] X.env)) (backToKw pos (keywordEach kws X.env))) := by rfl) :
    PE X (.Call (.Attribute o m apos) [] kws pos) (tSMK C sp gV ta tk) := by
  refine ⟨fun pins s σ H Q I h => PySem.W.methodCall_KW (pl := pl) (thn (he.run pins s σ H _ I h) fun u s1 ⟨x, H1, I1, rx, ex, q⟩ => ?_) ht⟩
  subst ex
  cases (show u = Value.ref C from rx)
  obtain ⟨rest, hp⟩ := c.rc
  refine PySem.W.method_cls I1.kIn r.ga (PySem.W.cls_bind I1.kIn r.rd c.at_ (wpAny_call (PySem.W.sm_get (s := { s1 with toks := s1.toks + 1 }) I1.kIn hp (PySem.W.handed_on rfl ?_))))
  have I2 : Inv X pins σ H1 { s1 with toks := s1.toks + 1 } := I1.tok _
  refine PySem.W.callWith_KW0 (first := []) (h₀ := X.base) I1.ok.mod.kin c.kp hall (thn (hkw.run pos pins _ σ H1 _ I2 q) fun ws s3 ⟨zs, H2, I3, rz, q2⟩ => ⟨I3.kIn, ?_⟩) hpl
  rw [hks]
  exact run_fnkG (us := []) (vs := []) F len gd hr hb I3 .nil rz q2
/-- ~o -/
def rInvG (C : Addr) (sp : Sp) : V → Hp → VK → Prop := fun x H Q => Own.Ins H x C ∧ sp [x] H Q E0
theorem un_invG (at_ : PySem.W.findIn X.K (.ref C) "__invert__" = some (some (.ref f))) (fn : PySem.W.isFn X.K (.ref f) = true) (F : FnG X.prog X.w X.K X.mg X.base CX0 k f fd ps sp) (len : ∀ vs H Q E, sp vs H Q E → vs.length = ps.length) (gd : X.A.guards = some []) (hr : Room k X.A) (hb : Binds X.K fd ps []) : UnR X (unaryOp .Invert) (rInvG C sp) := by
  intro pins s σ H x v Q I rx h
  obtain ⟨⟨a, dx, fs, rfl, ha⟩, h⟩ := h
  cases rx
  obtain ⟨ox, od, J⟩ := Own.ins_at I ha
  obtain ⟨m, fr⟩ := I.fr
  exact PySem.W.ksp_inv fr I.ok.mod.kin J at_ fn (run_fnG F len gd hr hb I (.cons (show RelV (V.ref a) (Value.ref a) from rfl) .nil) h)
end
end XG

set_option Elab.async false
set_option linter.all false
set_option maxRecDepth 100000
set_option maxHeartbeats 4000000
/-! table.without(name, ..). -/
namespace K06
open PySem PySem.Spec PyProof.Rows L2 Cm
open DtE (TRow tents lookT)
open Tb (key2 PairK wk TblAt TblC Tab TabAt rowsO tmeth firsts spTItem)
open Fk (NameV nameB srt srt_perm ents)
open EvP (Ex All2 is Gives)
theorem inV_str (x : Str) (ss : List Str) : inV (.str x) (ss.map V.str) = decide (x ∈ ss) := by
  unfold inV
  induction ss with
  | nil => rfl
  | cons s ss ih =>
    rw [List.map_cons, List.any_cons, ih]
    have e : eqV (V.str s) (.str x) = decide (s = x) := by
      show (s == x) = _
      by_cases c : s = x
      · simp [c]
      · simp [c]
    rw [e]
    by_cases c : x = s
    · subst c
      simp
    · have c' : ¬ s = x := fun z => c z.symm
      simp [c, c']
theorem flat_strs (ss : List Str) : (ss.map V.str).all flatV = true := by
  rw [List.all_eq_true]
  intro v hv
  obtain ⟨s, _, rfl⟩ := List.mem_map.mp hv
  rfl
section
variable {K : PySem.W.Frag} {σ : L2.St} {H : Hp} {te : TE} {m : Nat} {n : Str} {ss : List Str}
theorem t_ninT (hm : σ[m]? = some (some (.str n))) (h : Gives te σ H (tupV (ss.map V.str))) : Tst (tTest (tOp (rIn K true) (tVar m) te)) σ H (!decide (n ∈ ss)) :=
  t_test (g_op (P := is (.str n)) (EvP.var hm) h fun x y H1 _ ex ⟨p, ey, hp⟩ Q q => by
    subst ey
    refine ⟨p, _, rfl, .inr (SqT.of hp), by rw [show x = _ from ex]; rfl, flat_strs ss, q _ _ (Ex.refl _) ?_⟩
    rw [if_pos rfl, show x = _ from ex, inV_str]
    rfl)
theorem t_ninL (hm : σ[m]? = some (some (.str n))) (h : Gives te σ H (lstV (ss.map V.str))) : Tst (tTest (tOp (rIn K true) (tVar m) te)) σ H (!decide (n ∈ ss)) :=
  t_test (g_op (P := is (.str n)) (EvP.var hm) h fun x y H1 _ ex ⟨p, ey, hp⟩ Q q => by
    subst ey
    refine ⟨p, _, rfl, .inl (SqL.of hp), by rw [show x = _ from ex]; rfl, flat_strs ss, q _ _ (Ex.refl _) ?_⟩
    rw [if_pos rfl, show x = _ from ex, inV_str]
    rfl)
end
def offN (ss ns : List Str) : List Str := ss.filter fun n => !decide (n ∈ ns)
theorem mem_offN {ss ns : List Str} {x : Str} : x ∈ offN ss ns ↔ x ∈ ss ∧ x ∉ ns := by
  unfold offN
  rw [List.mem_filter, Bool.not_eq_true', decide_eq_false_iff_not]
theorem offN_ok {ss ns : List Str} (n : NamesOk ss) : NamesOk (offN ss ns) := ⟨n.nod.filter _, fun x hx => n.nm x (mem_offN.mp hx).1, Nat.le_trans (List.length_filter_le _ _) n.few⟩
theorem offN_perm {ss ts ns : List Str} (p : ss.Perm ts) : (offN ss ns).Perm (offN ts ns) := p.filter _
def strG (g : List Key → Int) (ns : List Str) : List Key → Int
  | [Sum.inr a, Sum.inr x] => if a ∈ ns ∨ x ∈ ns then 0 else g [Sum.inr a, Sum.inr x]
  | _ => 0
theorem strG_nn {g : List Key → Int} {ns : List Str} (nn : ∀ k, 0 ≤ g k) (k : List Key) : 0 ≤ strG g ns k := by
  unfold strG
  split
  · split
    · exact Int.le_refl _
    · exact nn _
  · exact Int.le_refl _
theorem strG_out {g : List Key → Int} {ns ss xs : List Str} (out : OutOf ss xs g) : OutOf (offN ss ns) (offN xs ns) (strG g ns) := fun k h => by
  match k, h with
  | [], _ => rfl
  | [Sum.inl _], _ => rfl
  | [Sum.inr _], _ => rfl
  | [Sum.inl _, Sum.inl _], _ => rfl
  | [Sum.inl _, Sum.inr _], _ => rfl
  | [Sum.inr _, Sum.inl _], _ => rfl
  | Sum.inl _ :: _ :: _ :: _, _ => rfl
  | Sum.inr _ :: Sum.inl _ :: _ :: _, _ => rfl
  | Sum.inr _ :: Sum.inr _ :: _ :: _, _ => rfl
  | [Sum.inr a, Sum.inr x], h =>
    show (if a ∈ ns ∨ x ∈ ns then 0 else g [Sum.inr a, Sum.inr x]) = 0
    by_cases c : a ∈ ns ∨ x ∈ ns
    · exact if_pos c
    · rw [if_neg c]
      refine out _ fun ⟨a', ha, x', hx, e⟩ => h ⟨a, mem_offN.mpr ⟨?_, fun z => c (.inl z)⟩, x, mem_offN.mpr ⟨?_, fun z => c (.inr z)⟩, rfl⟩
      · obtain ⟨e1, e2⟩ := Tb.key2_inj (show key2 a x = key2 a' x' from e)
        rw [e1]
        exact ha
      · obtain ⟨e1, e2⟩ := Tb.key2_inj (show key2 a x = key2 a' x' from e)
        rw [e2]
        exact hx
abbrev sWo : Stmt := tmeth 21
abbrev NWo : List Str := ["self", "names", "name", "sources", "uses", "source", "use", "a", "x"]
theorem scWo : FnScope NWo ((["self"] : List Str) ++ (["names"] : List Str)) (defScope sWo) := ⟨rfl, rfl, rfl, by decide +kernel, rfl, by decide +kernel, by decide +kernel⟩
def spTWo (C : Addr) : Sp := fun vs H Q _ => ∃ (v : V) (p : Addr) (ss xs : List Str) (g : List Key → Int) (ns : List Str), vs = [v, .ref p] ∧ TabW C ss xs g v H ∧ NamesOk ss ∧ NamesOk xs ∧ H p = some (.tup (ns.map V.str)) ∧ (∀ n ∈ ns, n ∈ ss ∨ n ∈ xs) ∧
  ∀ c H', Ex H H' → TabW C (offN ss ns) (offN xs ns) (strG g ns) c H' → Q c H'
/-- as it is called -/
def spWoR (C : Addr) : Sp := fun vs H Q E => ∃ ws rest, vs = ws ++ rest ∧ ws.length = (["self"] : List Str).length ∧ rest.length ≤ sizeLine ∧ ∀ p, H p = none → spTWo C (ws ++ [V.ref p]) (upd H p (.tup rest)) Q E
def scInWo : Scope := { kind := ScopeKind.function, names := [(Str.ofString ".0", NameKind.local), (Str.ofString "a", NameKind.cell), (Str.ofString "self", NameKind.cell), (Str.ofString "uses", NameKind.cell)], isGenerator := false, isCoroutine := false }
section
variable {P : Program} {w : World} {K : PySem.W.Frag} {mg : Str → Option Value} {base : Heap} {C f fI fG : Addr} {fd fdI dG : FuncData}
theorem ok_two (F : Fun K "without" "Table.without" sWo f fd) (S : TblC K C)
    (M : Own.Mt P w K mg base C "__getitem__" 3 ["self", "at"] (spTItem C) fG dG) (MF : PySem.W.fnIn K fG = true)
    (MK : Mk K C fI) (GI : XG.FnG P w K mg base CX0 5 fI fdI ["self", "rows", "uses"] (Tb.spTI K C)) (bI : Binds K fdI ["self", "rows", "uses"] []) (gT : mg "Table" = some (.ref C)) : XG.FnRG P w K mg base 7 f (spWoR C) := by
  have nd := scWo.nd
  obtain ⟨oc, od, kV, doc, pm, an, cdv, ct, osl, rfl, lk, hcd⟩ := F.ex
  refine XG.fn_starG (ps := ["self"]) (pv := "names") (sp := spTWo C) lk hcd scWo (StX.bind_star1 (B := fun us => bindArgs (PySem.W.fnOf "without" "Table.without" (defArgs sWo) (defBody sWo) (defScope sWo) .none kV doc pm an cdv ct) ⟨us, []⟩) (p1 := "self") (pv := "names") (fun a => rfl) (fun a r rs => rfl)) fun A outer sh H vs Q E gd hr h => ?_
  obtain ⟨v, p, ss, xs, g, ns, rfl, tw, sN, uN, hp, hin, q⟩ := h
  refine ⟨_, pss_cons (ps_for PassesOwn.never rfl (pi_tup (pv 1)) (pg_name (i := 2) nd rfl (Or.inl rfl))
      (pss_one (ps_if (PW.pt (pw_and (pt_cmpR op_notIn_seq (pv 2) (pe_fld (pv 0) rfl) (by rfl)) (pw_and1 (pt_cmpR op_notIn_seq (pv 2) (pe_fld (pv 0) rfl) (by rfl))))) (pss_one Fk.ps_dead) pss_nil)))
    (pss_cons (ps_setLc (own := [("source", 5)]) (g := gName 5) (tt := tTest (tOp (rIn K true) (tVar 5) (tVar 1))) (te := tVar 5) (i := 3) rfl nd rfl rfl rfl (pi_tup (pe_fld (pv 0) rfl)) (blkOk_by (N := NWo) (sc := defScope sWo) (by decide +kernel))
      (fun _ _ _ _ _ => pg_name (i := 5) nd rfl (Or.inl rfl)) (fun _ _ _ _ _ => pts_one (pt_cmpR op_notIn_seq (pv 5) (pv 1) (by rfl))) (fun _ _ _ _ _ => pv 5))
    (pss_cons (ps_set (i := 4) nd rfl (Or.inr rfl) (pe_lc (own := [("use", 6)]) (g := gName 6) (tt := tTest (tOp (rIn K true) (tVar 6) (tVar 1))) (te := tVar 6) rfl nd (pi_tup (pe_fld (pv 0) rfl)) (blkOk_by (N := NWo) (sc := defScope sWo) (by decide +kernel))
      (fun _ _ _ _ _ => pg_name (i := 6) nd rfl (Or.inl rfl)) (fun _ _ _ _ _ => pts_one (pt_cmpR op_notIn_seq (pv 6) (pv 1) (by rfl))) (fun _ _ _ _ _ => pv 6)))
    (pss_one (ps_ret (XG.pe_makeG MK GI Tb.spTI_len gd hr bI (by rfl) gT (pa_cons
      (pe_dc (own := [("a", 7)]) (g := gName 7) (tt := tYes) (tk := tVar 7) (tv := tDc (iList K (tVar 4)) (gName 8) tYes (tVar 8) (tIx7 C 0 7 8) [8]) rfl nd (pi_list (pv 3)) (blkOk_by (N := NWo) (sc := defScope sWo) (by decide +kernel))
        (fun _ _ _ _ _ => pg_name (i := 7) nd rfl (Or.inr rfl)) (fun _ _ _ _ _ => pts_nil) (fun _ _ _ _ _ => pv 7) (fun _ _ _ _ _ => by
          refine pe_dc (own := [("x", 8)]) (wi := iList K (tVar 4)) (g := gName 8) (tt := tYes) (tk := tVar 8) (tv := tIx7 C 0 7 8) rfl nd (pi_list (pv 4)) (blkOk_by (N := NWo) (sc := scInWo) (by decide +kernel))
            (fun _ _ _ _ _ => pg_name (i := 8) nd rfl (Or.inl rfl)) (fun _ _ _ _ _ => pts_nil) (fun _ _ _ _ _ => pv 8) (fun _ _ _ _ _ => Own.pe_ixOwn M MF (hr.mono (by decide)) (pv 0) (pe_tup (pa_cons (pv 7) (pa_cons (pv 8) pa_nil))))))
      (pa_cons (pv 4) pa_nil))))))), ?_⟩
  obtain ⟨x, r, rfl, tb, gr, gw⟩ := tw.ex
  obtain ⟨dx, n1, n2, dw, pp, prs, h1, h2, h3, h4, h5, h6⟩ := tb.ex
  have sN' := sN.srt
  have uN' := uN.srt
  have gS : ∀ {σ : L2.St} {H1 : Hp}, Ex H H1 → σ[0]? = some (some (.ref x)) → Gives (tFld K (tVar 0) "sources") σ H1 (tupV ((srt ss).map V.str)) := fun e h H2 e2 Q2 k2 => ⟨_, h, x, C, dx, _, _, rfl, e2 _ _ (e _ _ h1), S.cl, S.nS, rfl, k2 _ _ (Ex.refl _) ⟨n1, rfl, e2 _ _ (e _ _ h2)⟩⟩
  have gU : ∀ {σ : L2.St} {H1 : Hp}, Ex H H1 → σ[0]? = some (some (.ref x)) → Gives (tFld K (tVar 0) "uses") σ H1 (tupV ((srt xs).map V.str)) := fun e h H2 e2 Q2 k2 => ⟨_, h, x, C, dx, _, _, rfl, e2 _ _ (e _ _ h1), S.cl, S.nU, rfl, k2 _ _ (Ex.refl _) ⟨n2, rfl, e2 _ _ (e _ _ h3)⟩⟩
  -- for name in names
  refine ⟨_, rfl, p, rfl, ⟨_, SqT.of hp⟩, for_tup (xs := ns.map V.str) (fun i σ' H' => Ex H H' ∧ ∃ y, σ' = [some (.ref x), some (.ref p), y, none, none, none, none, none, none]) ⟨Ex.refl _, none, rfl⟩ (fun i σ' H' _ h => SqT.of (h.1 _ _ hp)) (fun i z σ' H' hi h => ?_) fun σ' H' h => ?_⟩
  · obtain ⟨e, y, rfl⟩ := h
    rw [List.getElem?_map] at hi
    obtain ⟨n, hn, rfl⟩ := Option.map_eq_some_iff.mp hi
    have mn := List.mem_of_getElem? hn
    dsimp only [gName]
    refine' Cm.st_ifF1 ?htest ?kend
    case kend => exact fun H2 e2 => ⟨e.trans e2, _, rfl⟩
    by_cases c : n ∈ srt ss
    · have t1 := t_ninT (K := K) (σ := [some (.ref x), some (.ref p), some (.str n), none, none, none, none, none, none]) (m := 2) (n := n) rfl (gS e rfl)
      rw [decide_eq_true c] at t1
      exact t_andF t1
    · have c2 : n ∈ srt xs := (hin n mn).elim (fun z => absurd ((srt_perm ss).mem_iff.mpr z) c) fun z => (srt_perm xs).mem_iff.mpr z
      have t1 := t_ninT (K := K) (σ := [some (.ref x), some (.ref p), some (.str n), none, none, none, none, none, none]) (m := 2) (n := n) rfl (gS e rfl)
      have t2 := t_ninT (K := K) (σ := [some (.ref x), some (.ref p), some (.str n), none, none, none, none, none, none]) (m := 2) (n := n) rfl (gU e rfl)
      rw [decide_eq_false c] at t1
      rw [decide_eq_true c2] at t2
      exact t_and t1 t2
  obtain ⟨e0, y, rfl⟩ := h
  -- sources, uses
  have flt : ∀ {l : List Str}, ((l.map V.str).filter fun v => match v with | .str n => !decide (n ∈ ns) | _ => false).map id = (offN l ns).map V.str := fun {l} => by
    rw [List.map_id, List.filter_map]
    rfl
  dsimp only
  refine' EvP.st_set (P := lstV ((offN (srt ss) ns).map V.str)) ?s1 ?k1
  case s1 =>
    have z := comp_is (te := tVar 5) (tt := tTest (tOp (rIn K true) (tVar 5) (tVar 1))) (i := 5) (vs := [5]) (σ := [some (.ref x), some (.ref p), y, none, none, none, none, none, none]) (H := H') (fun v => match v with | .str n => !decide (n ∈ ns) | _ => false) id (walks_tup (K := K) (gS e0 rfl)) (by rw [List.length_map]; have := sN'.few; omega) (fun _ => rfl)
      (fun v hv H2 e2 Q h => by
        obtain ⟨n, hn, rfl⟩ := List.mem_map.mp hv
        refine ⟨_, rfl, _, rfl, p, _, rfl, .inr (SqT.of (e2 _ _ (e0 _ _ hp))), rfl, flat_strs ns, _, rfl, ?_⟩
        rw [if_pos rfl, inV_str]
        exact h) (fun v hv _ => EvP.var rfl)
    rw [flt] at z
    exact z
  rintro v3 H2 e2 ⟨l1, rfl, q1⟩
  have e02 := e0.trans e2
  refine' EvP.st_set (P := lstV ((offN (srt xs) ns).map V.str)) ?s2 ?k2
  case s2 =>
    have z := comp_is (te := tVar 6) (tt := tTest (tOp (rIn K true) (tVar 6) (tVar 1))) (i := 6) (vs := [6]) (σ := [some (.ref x), some (.ref p), y, some (.ref l1), none, none, none, none, none]) (H := H2) (fun v => match v with | .str n => !decide (n ∈ ns) | _ => false) id (walks_tup (K := K) (gU e02 rfl)) (by rw [List.length_map]; have := uN'.few; omega) (fun _ => rfl)
      (fun v hv H2' e2' Q h => by
        obtain ⟨n, hn, rfl⟩ := List.mem_map.mp hv
        refine ⟨_, rfl, _, rfl, p, _, rfl, .inr (SqT.of (e2' _ _ (e02 _ _ hp))), rfl, flat_strs ns, _, rfl, ?_⟩
        rw [if_pos rfl, inV_str]
        exact h) (fun v hv _ => EvP.var rfl)
    rw [flt] at z
    exact z
  rintro v4 H3 e3 ⟨l2, rfl, q2⟩
  have e03 := e02.trans e3
  have q1' := e3 _ _ q1
  have tb3 := tb.mono e03
  have oS := offN_ok (ns := ns) sN'
  have oU := offN_ok (ns := ns) uN'
  unfold tRet XG.tMakeG tCons
  dsimp only
  refine (comp_tabR (σ := [some (.ref x), some (.ref p), y, some (.ref l1), some (.ref l2), none, none, none, none]) (vs := [7]) (i := 7) (rowG (strG g ns) (offN (srt xs) ns)) (walks_list (K := K) (EvP.varP rfl ⟨l1, rfl, q1'⟩)) (by have := oS.few; omega) oS.nod (by show 7 < 9; decide) (fun _ => rfl) (fun a ha H4 e4 => ?_)) H3 (Ex.refl _) _ fun v H4 e4 hv => ?_
  · rw [ents_rowG]
    refine comp_dictW (σ := [some (.ref x), some (.ref p), y, some (.ref l1), some (.ref l2), none, none, some (.str a), none]) (vs := [8]) (i := 8) (fun u => V.int (strG g ns (key2 a u))) (walks_list (K := K) (EvP.varP rfl ⟨l2, rfl, e4 _ _ q2⟩)) (by have := oU.few; omega) oU.nod (by show 8 < 9; decide) (fun _ => rfl) (fun u hu => ?_)
    have ma := mem_offN.mp ha
    have mu := mem_offN.mp hu
    have e : strG g ns (key2 a u) = wk r (key2 a u) := by
      show (if a ∈ ns ∨ u ∈ ns then 0 else g (key2 a u)) = _
      rw [if_neg fun z => z.elim ma.2 mu.2, gw]
    rw [e]
    exact g_ixT rfl rfl rfl (tb3.mono e4) (sN'.nm a ma.1) (uN'.nm u mu.1)
  obtain ⟨d, T, rfl, hT, eT, nodA, _⟩ := hv.ex
  refine ⟨_, rfl, ?_⟩
  have twS := TabW.perm (srt_perm ss).symm (srt_perm xs).symm tw
  show ∀ x dx, _
  exact go_makeG hT eT nodA (.inl (SqL.of (e4 _ _ q2))) oS oU (strG_nn tw.nn) (strG_out twS.out) fun v H5 e5 t5 => q v H5 ((e03.trans e4).trans e5) (TabW.perm (offN_perm (srt_perm ss)) (offN_perm (srt_perm xs)) t5)
end
end K06

set_option Elab.async false
set_option linter.all false
set_option maxRecDepth 100000
set_option maxHeartbeats 4000000
/-! dict(l) of a list of pairs whose first parts are tuples. -/
namespace L2
open PySem PySem.Spec PyProof.Rows
/-- the pairs: each at p a tuple of the key's address and the value -/
def KPairs (K : PySem.W.Frag) (H : Hp) (ps : List Addr) (kbs : List (List Key × Addr × V)) : Prop := Paired (fun p (kb : List Key × Addr × V) => SqT K H p [V.ref kb.2.1, kb.2.2] ∧ H kb.2.1 = some (.tup (kb.1.map kV))) ps kbs
def rDictT (K : PySem.W.Frag) : List V → Hp → VK → Prop := fun xs H Q => ∃ (a : Addr) (ps : List Addr) (kbs : List (List Key × Addr × V)), xs = [.ref a] ∧ SqL K H a (ps.map V.ref) ∧ KPairs K H ps kbs ∧ (kbs.map (·.1)).Nodup ∧ ∀ p, H p = none → Q (.ref p) (upd H p (.dT (kbs.map fun x => (x.1, x.2.2))))
theorem storedAllH_nod {κ : Type} [DecidableEq κ] : ∀ (qs acc : List (κ × Addr × Value)), ((acc ++ qs).map (·.1)).Nodup → storedAllH acc qs = acc ++ qs
  | [], acc, _ => by simp [storedAllH]
  | q :: qs, acc, h => by
    have n : atKey acc q.1 = none := by
      unfold atKey
      rw [Option.map_eq_none_iff, List.find?_eq_none]
      intro x hx e
      rw [List.map_append, List.nodup_append] at h
      exact h.2.2 x.1 (List.mem_map.mpr ⟨x, hx, rfl⟩) q.1 (by simp) (of_decide_eq_true e)
    have e : storedAllH acc (q :: qs) = storedAllH (acc ++ [q]) qs := by
      show storedAllH (storedH acc q.1 q.2.1 q.2.2) qs = _
      rw [storedH_new n]
    rw [e, storedAllH_nod qs (acc ++ [q]) (by rw [List.append_assoc]; exact h), List.append_assoc]
    rfl
section
variable {X : Cx}
theorem kpairs_of {pins : List (Addr × Obj)} {σ : St} {H : Hp} {s : Shared} (I : Inv X pins σ H s) {ps : List Addr} {kbs : List (List Key × Addr × V)} (h : KPairs X.K H ps kbs) :
    ∃ qs : List (List Key × Addr × Value), KT H (kbs.map fun x => (x.1, x.2.2)) qs ∧ qs.length = ps.length ∧ qs.map (·.1) = kbs.map (·.1) ∧ ∀ (j : Nat) (q : List Key × Addr × Value), qs[j]? = some q → ∃ p, ps[j]? = some p ∧ IsTup s.heap p #[Value.ref q.2.1, q.2.2] := by
  unfold KPairs at h
  induction h with
  | nil => exact ⟨[], .nil, rfl, rfl, fun j q e => by simp at e⟩
  | @cons p kb ps kbs h t ih =>
    obtain ⟨qs, r, hl, hk, hp⟩ := ih
    obtain ⟨its, rv, ht, _⟩ := I.tuple h.1
    obtain ⟨u, y, ei, ru, ry⟩ := vals2 rv
    subst ei
    obtain rfl : u = Value.ref kb.2.1 := ru
    refine ⟨(kb.1, kb.2.1, y) :: qs, .cons ⟨rfl, h.2, ry⟩ r, by rw [List.length_cons, List.length_cons, hl], by rw [List.map_cons, List.map_cons, hk], fun j q e => ?_⟩
    cases j with
    | zero =>
      obtain rfl : (kb.1, kb.2.1, y) = q := Option.some.inj e
      exact ⟨p, rfl, ht⟩
    | succ j =>
      obtain ⟨p', e1, e2⟩ := hp j q (by simpa using e)
      exact ⟨p', by simpa using e1, e2⟩
theorem call_dictT (hcalm : X.calm = true) (hu : X.A.units + 2 < cLine) : CallR X (.type "dict") (rDictT X.K) := by
  intro pins s σ H xs us Q I r q
  obtain ⟨a, ps, kbs, ex, hq, hp, nod, q⟩ := q
  subst ex
  obtain ⟨u, eu, rx⟩ := vals1 r
  subst eu
  cases rx
  obtain ⟨its, rv, pl, hz⟩ := I.list hq
  have ei := refs_at rv
  subst ei
  rw [List.length_map] at hz
  obtain ⟨qs, rel, hl, hk, hpr⟩ := kpairs_of I hp
  have lk : kbs.length = qs.length := by
    have := congrArg List.length hk
    rw [List.length_map, List.length_map] at this
    exact this.symm
  obtain ⟨o, n, ho, hc, hd, hdat⟩ := pl
  have isk : ∀ x ∈ qs, (tupleKind (mixKind X.prog X.w)).is s.heap x.1 x.2.1 := by
    have all : ∀ {l : List (List Key × V)} {m : List (List Key × Addr × Value)}, KT H l m → ∀ x ∈ m, (tupleKind (mixKind X.prog X.w)).is s.heap x.1 x.2.1 := by
      intro l m q
      induction q with
      | nil => intro x hx; exact nomatch hx
      | @cons p q ps qs hq t ih =>
        intro x hx
        rcases List.mem_cons.mp hx with e | hx
        · subst e
          exact key_of I.hok (by rw [← hq.1]; exact hq.2.1)
        · exact ih x hx
    exact all rel
  have pi : PairItems s.heap ((ps.map Value.ref).toArray) (fun j => ps.getD j 0) (qs.map fun q => (Value.ref q.2.1, q.2.2)) := by
    refine ⟨by simp [hl], fun j k v hj => ?_⟩
    rw [List.getElem?_map] at hj
    obtain ⟨q, hq', e⟩ := Option.map_eq_some_iff.mp hj
    obtain ⟨rfl, rfl⟩ := Prod.mk.inj e
    obtain ⟨p, e1, o', e2, e3, n', e4⟩ := hpr j q hq'
    refine ⟨by simp [e1], .inl ?_⟩
    have : ps.getD j 0 = p := by simp [List.getD, e1]
    show s.heap.IsTuple (ps.getD j 0) _
    rw [this]
    exact ⟨o', e2, e3, n', e4⟩
  refine call_dict_pairsH (knd := tupleKind (mixKind X.prog X.w)) (ps := qs) (PairArg.list a _ _ (qs.map fun q => (Value.ref q.2.1, q.2.2))) (I.ok.hd hcalm) hu ⟨⟨o, n, ho, hc, hd, hdat⟩, pi⟩ ⟨by rw [List.length_map], fun i key v hi => ?_⟩ (fun h' keep x hx => ?_) (by rw [List.length_map, hl]; exact hz) fun h' tk hd' keep => ?_
  · obtain ⟨q, hq', e⟩ := Option.map_eq_some_iff.mp (by rw [← List.getElem?_map]; exact hi)
    obtain ⟨rfl, rfl⟩ := Prod.mk.inj e
    exact ⟨q.1, q.2.1, hq', rfl⟩
  · obtain ⟨ox, itx, nx, h1, h2, h3, h4⟩ := isk x hx
    exact ⟨ox, itx, nx, keep _ _ (Nat.ne_of_lt (Heap.lt_size h1)) List.not_mem_nil h1, h2, h3, h4⟩
  · rw [storedAllH_nod qs [] (by rw [List.nil_append, hk]; exact nod), List.nil_append] at hd'
    obtain ⟨o2, es, ep, g1, g2, g3, g4, g5, g6⟩ := hd'
    have hm : (s.heap.objs.size == sysModules) = false := beq_eq_false_iff_ne.mpr (Nat.ne_of_gt I.big)
    have fr := I.hok.fresh (Nat.le_refl _)
    refine ⟨.ref s.heap.objs.size, upd H s.heap.objs.size (.dT (kbs.map fun x => (x.1, x.2.2))), I.laid (t' := tk) (fun b o e => keep b o List.not_mem_nil e) (Nat.le_refl _) ?_, rfl, q _ fr⟩
    refine ⟨by rw [List.length_map, lk, hl]; exact hz, hm, qs, Paired.mapP rel fun x y z => ⟨z.1, ?_, z.2.2⟩, o2, es, ep, g1, g2, g3, g4, g6⟩
    rw [upd_ne (ne_of_none z.2.1 fr)]
    exact z.2.1
end
end L2

set_option Elab.async false
set_option linter.all false
set_option maxRecDepth 100000
set_option maxHeartbeats 4000000
/-! dict([(k, e) for k in plain[2] if ..]), plain[2] a dict with tuple keys. -/
namespace K06
open PySem PySem.Spec PyProof.Rows L2 Cm
open DtE (TRow tents lookT valV_tents)
open Tb (key2 PairK wk TblAt TblC Tab TabAt rowsO tmeth firsts spTItem)
open Fk (NameV nameB srt srt_perm ents)
open EvP (Ex All2 is Gives)
def KPH (H : Hp) (ps : List Addr) (kbs : List (List Key × Addr × V)) : Prop := Paired (fun p (kb : List Key × Addr × V) => H p = some (.tup [V.ref kb.2.1, kb.2.2]) ∧ H kb.2.1 = some (.tup (kb.1.map kV))) ps kbs
theorem KPH.mono {H H' : Hp} {ps : List Addr} {kbs : List (List Key × Addr × V)} (h : KPH H ps kbs) (k : ∀ b ys, H b = some (.tup ys) → H' b = some (.tup ys)) : KPH H' ps kbs := Paired.mapP h fun _ _ z => ⟨k _ _ z.1, k _ _ z.2⟩
theorem KPH.snoc {H : Hp} {ps : List Addr} {kbs : List (List Key × Addr × V)} {p : Addr} {kb : List Key × Addr × V} (h : KPH H ps kbs) (h1 : H p = some (.tup [V.ref kb.2.1, kb.2.2])) (h2 : H kb.2.1 = some (.tup (kb.1.map kV))) : KPH H (ps ++ [p]) (kbs ++ [kb]) := Paired.snoc h ⟨h1, h2⟩
/-- a list of the pairs of r -/
def kpL (r : TRow) : EvP.PR := ⟨fun v H => ∃ (a : Addr) (ps : List Addr) (kbs : List (List Key × Addr × V)), v = .ref a ∧ H a = some (.lst (ps.map V.ref)) ∧ KPH H ps kbs ∧ kbs.map (fun x => (x.1, x.2.2)) = tents r, fun v H H' e h => by
  obtain ⟨a, ps, kbs, h1, h2, h3, h4⟩ := h
  exact ⟨a, ps, kbs, h1, e _ _ h2, h3.mono fun b ys h => e _ _ h, h4⟩⟩
/-- one pair of the list -/
def pairR (z : List Key × Int) (v : V) (H : Hp) : Prop := ∃ p b, v = .ref p ∧ H p = some (.tup [.ref b, .int z.2]) ∧ H b = some (.tup (z.1.map kV))
/-- d locked, all else as it was -/
structure Bd (H : Hp) (d : Addr) (r : TRow) (H1 : Hp) : Prop where
  kp : ∀ c o, H c = some o → c ≠ d → H1 c = some o
  fz : ∃ od, H1 d = some (.frz od (.dT (tents r)))
theorem Bd.ex {H H1 H2 : Hp} {d : Addr} {r : TRow} (b : Bd H d r H1) (e : Ex H1 H2) : Bd H d r H2 := ⟨fun c o h ne => e _ _ (b.kp c o h ne), by
  obtain ⟨od, h⟩ := b.fz
  exact ⟨od, e _ _ h⟩⟩
section
variable {K : PySem.W.Frag} {σ : L2.St} {H : Hp} {vs : List Nat} {i : Nat} {tt : TT} {te : TE} {g : TG}
theorem comp_pairsT {t a b d : Addr} {r : TRow} (st : List Key → Addr → L2.St) (keep : List Key → Bool) (ψ : List Key × Int → List Key × Int) (hi : σ[i]? = some (some (.ref t))) (ht : H t = some (.tup [.ref a, .ref b, .ref d])) (hd : H d = some (.dT (tents r))) (hz : r.length ≤ 1000)
    (hw : ∀ k q, wipe (st k q) vs = wipe σ vs) (hg : ∀ z ∈ r, ∀ q H1 (R : L2.St → Hp → Prop), H1 q = some (.tup (z.1.map kV)) → R (st z.1 q) H1 → g (.ref q) (wipe σ vs) H1 R)
    (hk : ∀ z ∈ r, ∀ q H1, Bd H d r H1 → H1 q = some (.tup (z.1.map kV)) → ∀ Q : Bool → Hp → Prop, (∀ H2, Ex H1 H2 → Q (keep z.1) H2) → tt (st z.1 q) H1 Q)
    (he : ∀ z ∈ r, keep z.1 = true → ∀ q H1, Bd H d r H1 → H1 q = some (.tup (z.1.map kV)) → ∀ Q : VK, (∀ v H2, Ex H1 H2 → pairR (ψ z) v H2 → Q v H2) → te (st z.1 q) H1 Q) :
    Gives (tLockE (tLc (iKeys (tOp (rIxT K) (tVar i) (tC (.int 2)))) g tt te vs)) σ H (kpL ((r.filter fun z => keep z.1).map ψ)) := fun H1 e1 Q q => by
  have h1 := e1 _ _ hd
  have t1 := e1 _ _ ht
  have td : t ≠ d := ne_of t1 h1 (fun z => nomatch z)
  refine ⟨d, _, h1, True.intro, fun od => ⟨_, hi, t, _, 2, .ref d, rfl, rfl, SqT.of (by rw [upd_ne td]; exact t1), atI_nat (xs := [V.ref a, .ref b, .ref d]) (j := 2) rfl, d, od, rfl, .inr ⟨tents r, upd_same, fun D hD => ?_⟩⟩⟩
  have nd : d ≠ D := fun z => by
    rw [← z, upd_same] at hD
    cases hD
  have nD : H1 D = none := by rw [upd_ne nd.symm] at hD; exact hD
  have kp : ∀ c o, H1 c = some o → c ≠ d → upd (upd H1 d (.frz od (.dT (tents r)))) D (.lst []) c = some o := fun c o hc ne => by
    rw [upd_ne (ne_of_none hc nD), upd_ne ne]
    exact hc
  refine lc_it walk_keysT (fun j H' => ∃ ps kbs, H' D = some (.lst (ps.map V.ref)) ∧ H' d = some (.frz od (.dT (tents r))) ∧ (∀ c o, H1 c = some o → c ≠ d → H' c = some o) ∧ KPH H' ps kbs ∧ kbs.map (fun x => (x.1, x.2.2)) = tents (((r.take j).filter fun z => keep z.1).map ψ) ∧ ps.length = kbs.length) ⟨[], [], upd_same, by rw [upd_ne nd]; exact upd_same, kp, .nil, by rw [List.take_zero]; rfl, rfl⟩ (fun j H' _ ⟨_, _, _, e, _⟩ => e) (fun j x H' H'' hj ⟨ps, kbs, a1, a2, a3, a4, a5, a6⟩ y => ?_) (fun H' ⟨ps, kbs, a1, a2, a3, a4, a5, a6⟩ => ?_)
  · obtain ⟨rfl, kk, vv, qq, hkk, rfl, hq⟩ := y
    unfold tents at hkk
    rw [List.getElem?_map] at hkk
    obtain ⟨z, hz', ez⟩ := Option.map_eq_some_iff.mp hkk
    obtain ⟨rfl, rfl⟩ := Prod.mk.inj ez
    have mz := List.mem_of_getElem? hz'
    have tk : r.take (j + 1) = r.take j ++ [z] := by
      rw [List.take_add_one, hz']
      rfl
    have bd : Bd H d r H'' := ⟨fun c o hc ne => a3 _ _ (e1 _ _ hc) ne, od, a2⟩
    refine hg z mz qq H'' _ hq ⟨hw _ _, hk z mz qq H'' bd hq _ fun H2 e2 => ?_⟩
    cases kx : keep z.1 with
    | false =>
      refine ⟨ps, kbs, e2 _ _ a1, e2 _ _ a2, fun c o hc ne => e2 _ _ (a3 c o hc ne), a4.mono fun b ys h => e2 _ _ h, ?_, a6⟩
      rw [tk, List.filter_append, List.filter_cons, kx]
      simpa using a5
    | true =>
      refine he z mz kx qq H2 (bd.ex e2) (e2 _ _ hq) _ fun v H3 e3 hv => ?_
      have e23 := e2.trans e3
      obtain ⟨p, bb, rfl, hp, hb⟩ := hv
      have a1' := e23 _ _ a1
      have tup : ∀ c ys, H3 c = some (.tup ys) → upd H3 D (.lst (ps.map V.ref ++ [V.ref p])) c = some (.tup ys) := fun c ys hc => by
        rw [upd_ne (ne_of hc a1' fun z => nomatch z)]
        exact hc
      have len : ps.length ≤ 1000 := by
        rw [a6]
        have := congrArg List.length a5
        rw [List.length_map] at this
        unfold tents at this
        rw [List.length_map, List.length_map] at this
        have h2 := List.length_filter_le (fun z : List Key × Int => keep z.1) (r.take j)
        rw [List.length_take] at h2
        omega
      refine ⟨_, a1', by rw [List.length_map, sizeLine_eq]; omega, ps ++ [p], kbs ++ [((ψ z).1, bb, .int (ψ z).2)], by rw [upd_same, List.map_append]; rfl, by rw [upd_ne nd]; exact e23 _ _ a2, fun c o hc ne => ?_, ((a4.mono fun b ys h => e23 _ _ h).snoc hp hb).mono tup, ?_, by rw [List.length_append, List.length_append, a6]; rfl⟩
      · rw [upd_ne (ne_of_none hc nD)]
        exact e23 _ _ (a3 _ _ hc ne)
      · rw [tk, List.filter_append, List.filter_cons, kx, List.map_append, List.map_append, a5]
        unfold tents
        rw [List.map_append]
        rfl
  · have e : (tents r).length = r.length := List.length_map _
    rw [e, List.take_length] at a5
    have Dd := nd.symm
    refine ⟨a2, q _ _ (fun c o hc => ?_) ⟨D, ps, kbs, rfl, by rw [upd_ne Dd]; exact a1, a4.mono fun b ys h => ?_, a5⟩⟩
    · by_cases cd : c = d
      · rw [cd, upd_same, ← h1, ← cd]
        exact hc
      · rw [upd_ne cd]
        exact a3 _ _ hc cd
    · rw [upd_ne (ne_of h a2 fun z => nomatch z)]
      exact h
/-- dict(l) -/
theorem g_dictT {r : TRow} (h : Gives te σ H (kpL r)) (nod : (r.map (·.1)).Nodup) : Gives (tCB (rDictT K) (tCons te tNil)) σ H (Tb.dictT H r) := fun H1 e1 Q q =>
  h H1 e1 _ fun v H2 e2 ⟨a, ps, kbs, ev, ha, hp, ek⟩ => by
    subst ev
    have nk : (kbs.map (·.1)).Nodup := by
      have := congrArg (List.map Prod.fst) ek
      unfold tents at this
      rw [List.map_map, List.map_map] at this
      have e : kbs.map (·.1) = r.map (·.1) := this
      rw [e]
      exact nod
    refine ⟨a, ps, kbs, rfl, SqL.of ha, Paired.mapP hp fun _ _ z => ⟨SqT.of z.1, z.2⟩, nk, fun p np => ?_⟩
    rw [ek]
    exact q _ _ (e2.trans (Ex.new np)) ⟨p, rfl, upd_same, (e1.trans e2).back np⟩
/-- plain[2][pair], plain[2] locked -/
theorem get_pair {t a b d q : Addr} {r : TRow} {l : Nat} {H1 : Hp} {Q : VK} {z : List Key × Int} (nod : (r.map (·.1)).Nodup) (mz : z ∈ r) (hi : σ[i]? = some (some (.ref t))) (hl : σ[l]? = some (some (.ref q))) (ht : H t = some (.tup [.ref a, .ref b, .ref d])) (td : t ≠ d) (bd : Bd H d r H1) (hq : H1 q = some (.tup (z.1.map kV))) (k : Q (.int z.2) H1) :
    tDGet (tOp (rIxT K) (tVar i) (tC (.int 2))) (tVar l) σ H1 Q := by
  obtain ⟨od, fz⟩ := bd.fz
  refine ⟨_, hi, t, _, 2, .ref d, rfl, rfl, SqT.of (bd.kp _ _ ht td), atI_nat (xs := [V.ref a, .ref b, .ref d]) (j := 2) rfl, _, hl, d, _, rfl, .inr ⟨tents r, z.1, q, .inr ⟨od, fz⟩, rfl, hq, ?_⟩, k⟩
  rw [valV_tents, (look_mem nod).mpr (show (z.1, z.2) ∈ r from mz)]
  rfl
end
end K06

set_option Elab.async false
set_option linter.all false
set_option maxRecDepth 100000
set_option maxHeartbeats 4000000
/-! _law_struck. -/
namespace K06
open PySem PySem.Spec PyProof.Rows L2 Cm
open DtE (TRow tents lookT valV_tents)
open Tb (key2 PairK wk TblAt TblC Tab TabAt rowsO tmeth firsts spTItem)
open Fk (NameV nameB srt srt_perm ents)
open EvP (Ex All2 is Gives)
theorem WorthsOk.good {ss xs : List Str} {r : TRow} (w : WorthsOk ss xs r) : GoodR ss xs r := ⟨w.nod, w.key, fun t ht => (w.pos t ht).1⟩
/-- no name of a pair is one of these -/
def offK (ns : List Str) : List Key → Bool
  | [Sum.inr a, Sum.inr x] => !decide (a ∈ ns) && !decide (x ∈ ns)
  | _ => false
def strR (r : TRow) (ns : List Str) : TRow := r.filter fun z => offK ns z.1
theorem strR_map (r : TRow) (ns : List Str) : ((r.filter fun z => offK ns z.1).map fun z => (z.1, z.2)) = strR r ns := List.map_id _
theorem nod_filter {r : TRow} {p : List Key × Int → Bool} (n : (r.map (·.1)).Nodup) : ((r.filter p).map (·.1)).Nodup := n.sublist ((List.filter_sublist).map _)
theorem strR_ok {ss xs ns : List Str} {r : TRow} (w : WorthsOk ss xs r) : WorthsOk (offN ss ns) (offN xs ns) (strR r ns) := by
  refine ⟨nod_filter w.nod, fun t ht => ?_, fun t ht => w.pos t (List.mem_filter.mp ht).1⟩
  obtain ⟨m, k⟩ := List.mem_filter.mp ht
  obtain ⟨a, ha, x, hx, e⟩ := w.key t m
  rw [e] at k
  have k : (!decide (a ∈ ns) && !decide (x ∈ ns)) = true := k
  rw [Bool.and_eq_true, Bool.not_eq_true', Bool.not_eq_true', decide_eq_false_iff_not, decide_eq_false_iff_not] at k
  exact ⟨a, mem_offN.mpr ⟨ha, k.1⟩, x, mem_offN.mpr ⟨hx, k.2⟩, e⟩
theorem look_filter {r : TRow} {p : List Key → Bool} (n : (r.map (·.1)).Nodup) (k : List Key) : wk (r.filter fun z => p z.1) k = if p k = true then wk r k else 0 := by
  unfold wk
  have n2 := nod_filter (p := fun z => p z.1) n
  by_cases c : p k = true
  · rw [if_pos c]
    cases q : lookT r k with
    | some v =>
      have m := (look_mem n).mp q
      rw [(look_mem n2).mpr (List.mem_filter.mpr ⟨m, c⟩)]
    | none =>
      cases q2 : lookT (r.filter fun z => p z.1) k with
      | none => rfl
      | some v =>
        have m := (List.mem_filter.mp ((look_mem n2).mp q2)).1
        rw [(look_mem n).mpr m] at q
        cases q
  · rw [if_neg c]
    cases q2 : lookT (r.filter fun z => p z.1) k with
    | none => rfl
    | some v => exact absurd (List.mem_filter.mp ((look_mem n2).mp q2)).2 c
theorem strR_wk {ss xs ns : List Str} {r : TRow} (w : WorthsOk ss xs r) (k : List Key) : strG (wk r) ns k = wk (strR r ns) k := by
  unfold strR
  rw [look_filter w.nod]
  by_cases c : ∃ a ∈ ss, ∃ x ∈ xs, k = key2 a x
  · obtain ⟨a, ha, x, hx, rfl⟩ := c
    show (if a ∈ ns ∨ x ∈ ns then 0 else wk r (key2 a x)) = if (!decide (a ∈ ns) && !decide (x ∈ ns)) = true then wk r (key2 a x) else 0
    by_cases c1 : a ∈ ns
    · rw [if_pos (.inl c1), decide_eq_true c1]
      rfl
    · by_cases c2 : x ∈ ns
      · rw [if_pos (.inr c2), decide_eq_true c2, Bool.not_true, Bool.and_false]
        rfl
      · rw [if_neg fun z => z.elim c1 c2, decide_eq_false c1, decide_eq_false c2]
        rfl
  · have z : wk r k = 0 := w.good.out c
    have z2 : strG (wk r) ns k = 0 := by
      unfold strG
      split
      · split
        · rfl
        · exact z
      · rfl
    rw [z2, z]
    split <;> rfl
abbrev sStruck : Stmt := top 48
abbrev NSk : List Str := ["plain", "gone", "found", "pair", "name"]
theorem scStruck : FnScope NSk ["plain", "gone"] (defScope sStruck) := ⟨rfl, rfl, rfl, by decide +kernel, rfl, by decide +kernel, by decide +kernel⟩
def spStruck : Sp := fun vs H Q _ => ∃ (v : V) (g : Addr) (ss xs ns : List Str) (r : TRow), vs = [v, .ref g] ∧ PlainAt H v ss xs r ∧ PlainOk ss xs r ∧ H g = some (.lst (ns.map V.str)) ∧
  ∀ v' H', Ex H H' → PlainAt H' v' (offN ss ns) (offN xs ns) (strR r ns) → Q v' H'
section
variable {P : Program} {w : World} {K : PySem.W.Frag} {mg : Str → Option Value} {base : Heap} {f : Addr} {fd : FuncData}
/-- [name for name in plain[j] if name not in gone] -/
theorem g_offN {σ : L2.St} {H : Hp} {i l m : Nat} {vs : List Nat} {t a b d p g : Addr} {jj : Int} {ss ns : List Str} (hi : σ[i]? = some (some (.ref t))) (ht : H t = some (.tup [.ref a, .ref b, .ref d])) (hj : atI [V.ref a, .ref b, .ref d] jj = some (.ref p)) (hp : H p = some (.lst (ss.map V.str))) (hg : H g = some (.lst (ns.map V.str))) (z1 : ss.length ≤ 100)
    (wp : ∀ x, wipe ((wipe σ vs).set m (some x)) vs = wipe σ vs) (wl : ∀ x, ((wipe σ vs).set m (some x))[l]? = some (some (.ref g))) (wm : ∀ x, ((wipe σ vs).set m (some x))[m]? = some (some x)) :
    Gives (tLc (iList K (tOp (rIxT K) (tVar i) (tC (.int jj)))) (gName m) (tTest (tOp (rIn K true) (tVar m) (tVar l))) (tVar m) vs) σ H (lstV ((offN ss ns).map V.str)) := by
  have z := comp_is (te := tVar m) (tt := tTest (tOp (rIn K true) (tVar m) (tVar l))) (i := m) (vs := vs) (σ := σ) (H := H) (fun v => match v with | .str n => !decide (n ∈ ns) | _ => false) id (walks_list (K := K) (tl := tOp (rIxT K) (tVar i) (tC (.int jj))) (xs := ss.map V.str) (fun H1 e Q k => ⟨_, hi, t, _, jj, .ref p, rfl, rfl, SqT.of (e _ _ ht), hj, k _ _ (Ex.refl _) ⟨p, rfl, e _ _ hp⟩⟩)) (by rw [List.length_map]; omega) wp
    (fun v hv H2 e2 Q h => by
      obtain ⟨n, hn, rfl⟩ := List.mem_map.mp hv
      refine ⟨_, wm _, _, wl _, g, _, rfl, .inl (SqL.of (e2 _ _ hg)), rfl, flat_strs ns, _, rfl, ?_⟩
      rw [if_pos rfl, inV_str]
      exact h) (fun v hv _ => EvP.var (wm v))
  rw [List.map_id, List.filter_map] at z
  exact z
theorem ok_struck (F : Fun K "_law_struck" "_law_struck" sStruck f fd) (hD : mg "dict" = none) : FnOk P w K mg base CX0 1 f fd ["plain", "gone"] spStruck := by
  have nd := scStruck.nd
  refine F.ok scStruck (fun vs H Q E h => ?_) (fun cdv A outer s H vs Q E hr h => ?_)
  · obtain ⟨v, g, ss, xs, ns, r, rfl, _⟩ := h
    rfl
  obtain ⟨v, g, ss, xs, ns, r, rfl, pa, ok, hg, q⟩ := h
  have hu := hu_of hr
  have hu2 : A.units + 3 + 2 < cLine := by
    have : A.units + 3 + 16 * 0 + 200 < cLine := hr.un
    omega
  refine ⟨_, pss_cons (ps_set (i := 2) nd rfl (Or.inl rfl) (pe_callTy (T := "dict") (call_dictT rfl hu2) (by rfl) hD (by decide +kernel) (pa_cons (pe_lock (pe_lc (own := [("pair", 3)]) (g := gName 3)
        (tt := tAnd (tTest (tOp (rIn K true) (tOp (rIxT K) (tVar 3) (tC (.int 0))) (tVar 1))) (tTest (tOp (rIn K true) (tOp (rIxT K) (tVar 3) (tC (.int 1))) (tVar 1)))) (te := tTup (tCons (tVar 3) (tCons (tDGet (tOp (rIxT K) (tVar 0) (tC (.int 2))) (tVar 3)) tNil))) rfl nd (pi_keys (pe_ix ix_tup (pv 0) pe_int (fun _ _ => rfl))) (blkOk_by (N := NSk) (sc := defScope sStruck) (by decide +kernel))
        (fun _ _ _ _ _ => pg_name (i := 3) nd rfl (Or.inl rfl)) (fun _ _ _ _ _ => pts_one (PW.pt (pw_and (pt_cmpR op_notIn_seq (pe_ix ix_tup (pv 3) pe_int (fun _ _ => rfl)) (pv 1) (by rfl)) (pw_and1 (pt_cmpR op_notIn_seq (pe_ix ix_tup (pv 3) pe_int (fun _ _ => rfl)) (pv 1) (by rfl))))))
        (fun _ _ _ _ _ => pe_tup (pa_cons (pv 3) (pa_cons (pe_dget hu (pe_ix ix_tup (pv 0) pe_int (fun _ _ => rfl)) (pv 3) (fun _ _ => rfl)) pa_nil))))) pa_nil)))
    (pss_one (ps_ret (pe_tup (pa_cons (pe_lc (own := [("name", 4)]) (g := gName 4) (tt := tTest (tOp (rIn K true) (tVar 4) (tVar 1))) (te := tVar 4) rfl nd (pi_list (pe_ix ix_tup (pv 0) pe_int (fun _ _ => rfl))) (blkOk_by (N := NSk) (sc := defScope sStruck) (by decide +kernel))
        (fun _ _ _ _ _ => pg_name (i := 4) nd rfl (Or.inl rfl)) (fun _ _ _ _ _ => pts_one (pt_cmpR op_notIn_seq (pv 4) (pv 1) (by rfl))) (fun _ _ _ _ _ => pv 4))
      (pa_cons (pe_lc (own := [("name", 4)]) (g := gName 4) (tt := tTest (tOp (rIn K true) (tVar 4) (tVar 1))) (te := tVar 4) rfl nd (pi_list (pe_ix ix_tup (pv 0) pe_int (fun _ _ => rfl))) (blkOk_by (N := NSk) (sc := defScope sStruck) (by decide +kernel))
        (fun _ _ _ _ _ => pg_name (i := 4) nd rfl (Or.inl rfl)) (fun _ _ _ _ _ => pts_one (pt_cmpR op_notIn_seq (pv 4) (pv 1) (by rfl))) (fun _ _ _ _ _ => pv 4)) (pa_cons (pv 2) pa_nil)))))), ?_⟩
  obtain ⟨t, a, b, d, rfl, h1, h2, h3, h4⟩ := pa.ex
  have td : t ≠ d := ne_of h1 h4 fun z => nomatch z
  have gd : g ≠ d := ne_of hg h4 fun z => nomatch z
  have few := ok.w.good.len36 ok.s.few ok.u.few
  have S6 := ok.s.few
  have X6 := ok.u.few
  have key : ∀ z ∈ r, ∃ a x, z.1 = key2 a x := fun z mz => by
    obtain ⟨a, _, x, _, e⟩ := ok.w.key z mz
    exact ⟨a, x, e⟩
  refine' EvP.st_set (P := Tb.dictT H (strR r ns)) ?s1 ?k1
  case s1 =>
    have z := comp_pairsT (K := K) (σ := [some (.ref t), some (.ref g), none, none, none]) (H := H) (vs := [3]) (i := 0) (g := gName 3) (tt := tAnd (tTest (tOp (rIn K true) (tOp (rIxT K) (tVar 3) (tC (.int 0))) (tVar 1))) (tTest (tOp (rIn K true) (tOp (rIxT K) (tVar 3) (tC (.int 1))) (tVar 1)))) (te := tTup (tCons (tVar 3) (tCons (tDGet (tOp (rIxT K) (tVar 0) (tC (.int 2))) (tVar 3)) tNil)))
      (fun _ q => [some (.ref t), some (.ref g), none, some (.ref q), none]) (offK ns) (fun z => (z.1, z.2)) rfl h1 h4 (by omega) (fun _ _ => rfl) (fun z mz q H1 R _ h => h) (fun z mz q H1 bd hq Q k => ?_) (fun z mz kz q H1 bd hq Q k => ?_)
    · rw [strR_map] at z
      exact g_dictT z (nod_filter ok.w.nod)
    · obtain ⟨a', x', e⟩ := key z mz
      rw [e] at hq k
      have hg1 := bd.kp _ _ hg gd
      refine ⟨_, rfl, q, _, 0, .str a', rfl, rfl, SqT.of hq, atI_nat (xs := [V.str a', .str x']) (j := 0) rfl, _, rfl, g, _, rfl, .inl (SqL.of hg1), rfl, flat_strs ns, _, rfl, ?_⟩
      rw [if_pos rfl, inV_str]
      by_cases c : a' ∈ ns
      · rw [decide_eq_true c]
        have this : Q (!decide (a' ∈ ns) && !decide (x' ∈ ns)) H1 := k H1 (Ex.refl _)
        rw [decide_eq_true c] at this
        exact this
      · rw [decide_eq_false c]
        refine ⟨_, rfl, q, _, 1, .str x', rfl, rfl, SqT.of hq, atI_nat (xs := [V.str a', .str x']) (j := 1) rfl, _, rfl, g, _, rfl, .inl (SqL.of hg1), rfl, flat_strs ns, _, rfl, ?_⟩
        rw [if_pos rfl, inV_str]
        have this : Q (!decide (a' ∈ ns) && !decide (x' ∈ ns)) H1 := k H1 (Ex.refl _)
        rw [decide_eq_false c] at this
        exact this
    · refine ⟨_, rfl, get_pair (K := K) (i := 0) (l := 3) (Q := fun v H2 => _) ok.w.nod mz rfl rfl h1 td bd hq ?_⟩
      refine ⟨by show 2 ≤ sizeLine; decide, fun p np => k _ _ (Ex.new np) ⟨p, q, rfl, upd_same, Ex.new np _ _ hq⟩⟩
  rintro v2 H2 e2 ⟨dd, rfl, hdd, _⟩
  refine EvP.st_ret (P := plainP (offN ss ns) (offN xs ns) (strR r ns)) ?_ fun v' H' e' hp => q v' H' (e2.trans e') hp
  have gS := g_offN (K := K) (σ := [some (.ref t), some (.ref g), some (.ref dd), none, none]) (H := H2) (i := 0) (l := 1) (m := 4) (vs := [4]) (jj := 0) rfl (e2 _ _ h1) (atI_nat (xs := [V.ref a, .ref b, .ref d]) (j := 0) rfl) (e2 _ _ h2) (e2 _ _ hg) (by omega) (fun _ => rfl) (fun _ => rfl) (fun _ => rfl)
  have gX := g_offN (K := K) (σ := [some (.ref t), some (.ref g), some (.ref dd), none, none]) (H := H2) (i := 0) (l := 1) (m := 4) (vs := [4]) (jj := 1) rfl (e2 _ _ h1) (atI_nat (xs := [V.ref a, .ref b, .ref d]) (j := 1) rfl) (e2 _ _ h3) (e2 _ _ hg) (by omega) (fun _ => rfl) (fun _ => rfl) (fun _ => rfl)
  refine Fk.Gives.imp (EvP.tuple (EvP.cons gS (EvP.cons gX (EvP.cons (EvP.varP (P := Tb.dictT H (strR r ns)) rfl ⟨dd, rfl, hdd, by assumption⟩) EvP.nil))) (by show 3 ≤ 1000; decide)) fun v H ⟨p, vs, ev, hp, hs⟩ => ?_
  cases hs with
  | cons c1 hs => cases hs with
    | cons c2 hs => cases hs with
      | cons c3 hs =>
        cases hs
        obtain ⟨p1, rfl, q1⟩ := c1
        obtain ⟨p2, rfl, q2⟩ := c2
        obtain ⟨p3, rfl, q3, _⟩ := c3
        exact ⟨p, p1, p2, p3, ev, hp, q1, q2, q3⟩
end
end K06

set_option Elab.async false
set_option linter.all false
set_option maxRecDepth 100000
set_option maxHeartbeats 4000000
/-! _law_turned_right. -/
namespace K06
open PySem PySem.Spec PyProof.Rows L2 Cm
open DtE (TRow tents lookT valV_tents)
open Tb (key2 PairK wk TblAt TblC Tab TabAt rowsO tmeth firsts spTItem spTEq)
open Fk (NameV nameB srt srt_perm ents)
open EvP (Ex All2 is Gives)
/-- the class Table, as the law's helpers use it -/
structure Tbl7 (P : Program) (w : World) (K : PySem.W.Frag) (mg : Str → Option Value) (base : Heap) (C : Addr) where
  S : TblC K C
  gT : mg "Table" = some (.ref C)
  fQ : Addr
  dQ : FuncData
  eq : Own.Mt P w K mg base C "__eq__" 1 ["self", "other"] (spTEq K C) fQ dQ
  ne : PySem.W.findIn K (.ref C) "__ne__" = some (some (.builtin "object.__ne__"))
  mro : PySem.W.mroIn K C (.type "object") = some true
  fV : Addr
  dV : FuncData
  invA : PySem.W.findIn K (.ref C) "__invert__" = some (some (.ref fV))
  invN : PySem.W.isFn K (.ref fV) = true
  inv : XG.FnG P w K mg base CX0 7 fV dV ["self"] (spTInv C)
  invB : Binds K dV ["self"] []
/-- what each helper keeps -/
def spR7 : Sp := fun vs H Q _ => ∃ (p q : Addr) (ns : List Int) (s g : Int) (v : V) (ss xs : List Str) (r : TRow), vs = [.ref p, v] ∧ Pen H p q ns s g ∧ ns.length ≤ 63 ∧ 0 ≤ s ∧ s < 90000 ∧ PlainAt H v ss xs r ∧ PlainOk ss xs r ∧
  ∀ (s' g' : Int) (H' : Hp), s ≤ s' → s' ≤ s + 400 → Pen H' p q ns s' g' → But p H H' → Q (.bl true) H'
theorem spR7_len : ∀ vs H Q E, spR7 vs H Q E → vs.length = (["pen", "plain"] : List Str).length := fun vs H Q E h => by
  obtain ⟨p, q, ns, s, g, v, ss, xs, r, rfl, _⟩ := h
  rfl
def turnR (r : TRow) : TRow := r.map fun z => (z.1.reverse, z.2)
theorem turnR_ok {ss xs : List Str} {r : TRow} (w : WorthsOk ss xs r) : WorthsOk xs ss (turnR r) := by
  refine ⟨?_, fun t ht => ?_, fun t ht => ?_⟩
  · unfold turnR
    rw [List.map_map]
    have : r.map ((·.1) ∘ fun z => (z.1.reverse, z.2)) = (r.map (·.1)).map List.reverse := by
      rw [List.map_map]
      rfl
    rw [this]
    exact w.nod.map List.reverse fun a b hab h => hab (by simpa using congrArg List.reverse h)
  · obtain ⟨z, hz, rfl⟩ := List.mem_map.mp ht
    obtain ⟨a, ha, x, hx, e⟩ := w.key z hz
    exact ⟨x, hx, a, ha, by rw [e]; rfl⟩
  · obtain ⟨z, hz, rfl⟩ := List.mem_map.mp ht
    exact w.pos z hz
theorem turnR_wk {ss xs : List Str} {r : TRow} (w : WorthsOk ss xs r) (k : List Key) : revK (wk r) k = wk (turnR r) k := by
  have n2 := (turnR_ok w).nod
  show wk r k.reverse = _
  unfold wk
  cases q : lookT r k.reverse with
  | some v =>
    have m := (look_mem w.nod).mp q
    rw [(look_mem n2).mpr (show (k, v) ∈ turnR r from List.mem_map.mpr ⟨_, m, by rw [List.reverse_reverse]⟩)]
  | none =>
    cases q2 : lookT (turnR r) k with
    | none => rfl
    | some v =>
      obtain ⟨z, hz, e⟩ := List.mem_map.mp ((look_mem n2).mp q2)
      obtain ⟨e1, e2⟩ := Prod.mk.inj e
      have : k.reverse = z.1 := by rw [← e1, List.reverse_reverse]
      rw [this, (look_mem w.nod).mpr (show (z.1, z.2) ∈ r from hz)] at q
      cases q
section
variable {K : PySem.W.Frag} {C : Addr} {σ : L2.St} {H : Hp} {ta : TE} {ss xs : List Str} {g : List Key → Int}
theorem tabW_ins {v : V} (h : TabW C ss xs g v H) : Own.Ins H v C := by
  obtain ⟨x, r, rfl, tb, _⟩ := h.ex
  exact Tb.tbl_ins tb
theorem g_inv (sN : NamesOk ss) (uN : NamesOk xs) (h : Gives ta σ H (tabW C ss xs g)) : Gives (tUn (XG.rInvG C (spTInv C)) ta) σ H (tabW C xs ss (revK g)) := fun H1 e1 Q q =>
  h H1 e1 _ fun v H2 e2 hv => ⟨tabW_ins hv, v, ss, xs, g, rfl, hv, sN, uN, fun c H' e t => q c H' (e2.trans e) t⟩
end
abbrev sTurn : Stmt := top 52
abbrev NTd : List Str := ["pen", "plain", "table", "due", "source", "use"]
theorem scTurn : FnScope NTd ["pen", "plain"] (defScope sTurn) := ⟨rfl, rfl, rfl, by decide +kernel, rfl, by decide +kernel, by decide +kernel⟩
def stT (p : Addr) (t x : Addr) : List Key → L2.St
  | [Sum.inr a, Sum.inr u] => [some (.ref p), some (.ref t), some (.ref x), none, some (.str a), some (.str u)]
  | _ => [some (.ref p), some (.ref t), some (.ref x), none, none, none]
theorem stT_wipe (p t x : Addr) (k : List Key) : wipe (stT p t x k) [4, 5] = [some (.ref p), some (.ref t), some (.ref x), none, none, none] := by
  unfold stT
  split <;> rfl
section
variable {P : Program} {w : World} {K : PySem.W.Frag} {mg : Str → Option Value} {base : Heap} {C f : Addr} {fd : FuncData}
theorem ok_turn (F : Fun K "_law_turned_right" "_law_turned_right" sTurn f fd) (M : Tbl7 P w K mg base C) (hD : mg "dict" = none) (DM : CalG P w K mg base 7 "_law_made" ["pen", "plain"] (spMade C)) (DI : CalG P w K mg base 5 "_law_is" ["table", "plain"] (spIs5 C)) : XG.FnG P w K mg base CX0 8 f fd ["pen", "plain"] spR7 := by
  have nd := scTurn.nd
  refine XG.Fun.okG F scTurn spR7_len fun cdv A outer sh H vs Q E gd hr h => ?_
  obtain ⟨p, q, ns, s, g, v, ss, xs, r, rfl, hP, hl, s0, s1, pa, ok, k⟩ := h
  have hu := hu_of hr
  have hu2 : A.units + 3 + 2 < cLine := by
    have : A.units + 3 + 16 * 7 + 200 < cLine := hr.un
    omega
  refine ⟨_, pss_cons (ps_set (i := 2) nd rfl (Or.inl rfl) (Tb.pe_callG DM.ok DM.len gd (hr.mono (by decide)) (by rfl) DM.g DM.kp DM.b (pa_cons (pv 0) (pa_cons (pv 1) pa_nil))))
    (pss_cons (ps_set (i := 3) nd rfl (Or.inl rfl) (pe_tup (pa_cons (pe_ix ix_tup (pv 1) pe_int (fun _ _ => rfl)) (pa_cons (pe_ix ix_tup (pv 1) pe_int (fun _ _ => rfl)) (pa_cons (pe_callTy (T := "dict") (call_dictT rfl hu2) (by rfl) hD (by decide +kernel) (pa_cons
      (pe_lock (pe_lc (own := [("source", 4), ("use", 5)]) (g := gTup K 2 (gCons (gName 4) (gCons (gName 5) gNil))) (tt := tYes) (te := tTup (tCons (tTup (tCons (tVar 5) (tCons (tVar 4) tNil))) (tCons (tDGet (tOp (rIxT K) (tVar 1) (tC (.int 2))) (tTup (tCons (tVar 4) (tCons (tVar 5) tNil)))) tNil))) rfl nd (by exact pi_keys (pe_ix ix_tup (pv 1) pe_int (fun _ _ => rfl))) (blkOk_by (N := NTd) (sc := defScope sTurn) (by decide +kernel))
        (fun _ _ _ _ _ => by exact pg_tup rfl (pgs_cons (pg_name (i := 4) nd rfl (Or.inl rfl)) (pgs_cons (pg_name (i := 5) nd rfl (Or.inl rfl)) pgs_nil))) (fun _ _ _ _ _ => pts_nil)
        (fun _ _ _ _ _ => pe_tup (pa_cons (pe_tup (pa_cons (pv 5) (pa_cons (pv 4) pa_nil))) (pa_cons (pe_dget hu (pe_ix ix_tup (pv 1) pe_int (fun _ _ => rfl)) (pe_tup (pa_cons (pv 4) (pa_cons (pv 5) pa_nil))) (fun _ _ => rfl)) pa_nil))))) pa_nil)) pa_nil)))))
    (pss_one (ps_ret (pe_and (Tb.pe_callG DI.ok DI.len gd (hr.mono (by decide)) (by rfl) DI.g DI.kp DI.b (pa_cons (pe_un (XG.un_invG M.invA M.invN M.inv spTInv_len gd (hr.mono (by decide)) M.invB) (pv 2)) (pa_cons (pv 3) pa_nil)))
      (pe_and (pe_cmpR (Own.cmp_own (op := .Eq) M.eq (hr.mono (by decide))) (pe_un (XG.un_invG M.invA M.invN M.inv spTInv_len gd (hr.mono (by decide)) M.invB) (pe_un (XG.un_invG M.invA M.invN M.inv spTInv_len gd (hr.mono (by decide)) M.invB) (pv 2))) (pv 2) (nomark _))
      (pe_one (Tb.pe_callG DI.ok DI.len gd (hr.mono (by decide)) (by rfl) DI.g DI.kp DI.b (pa_cons (pv 2) (pa_cons (pv 1) pa_nil))))))))), ?_⟩
  refine ⟨_, rfl, _, rfl, p, q, ns, s, g, v, ss, xs, r, rfl, hP, hl, s0, by omega, pa, ok, fun x r1 sa ga H1 tb al a1 a2 hP1 bt1 => ?_⟩
  have pa1 := pa.but hP bt1
  obtain ⟨g1, w1⟩ := al.good ok.w.good
  have T1 : TabW C ss xs (wk r) (.ref x) H1 := ⟨x, r1, rfl, tb, g1, w1⟩
  obtain ⟨t, a, b, d, rfl, h1, h2, h3, h4⟩ := pa1.ex
  have td : t ≠ d := ne_of h1 h4 fun z => nomatch z
  have few := ok.w.good.len36 ok.s.few ok.u.few
  have key : ∀ z ∈ r, ∃ a x, z.1 = key2 a x := fun z mz => by
    obtain ⟨a, _, x, _, e⟩ := ok.w.key z mz
    exact ⟨a, x, e⟩
  have tok := turnR_ok ok.w
  dsimp only [gName]
  refine' EvP.st_set (P := plainP xs ss (turnR r)) ?s1 ?k1
  case s1 =>
    have z := comp_pairsT (K := K) (σ := [some (.ref p), some (.ref t), some (.ref x), none, none, none]) (H := H1) (vs := [4, 5]) (i := 1) (g := gTup K 2 (gCons (gName 4) (gCons (gName 5) gNil))) (tt := tYes) (te := tTup (tCons (tTup (tCons (tVar 5) (tCons (tVar 4) tNil))) (tCons (tDGet (tOp (rIxT K) (tVar 1) (tC (.int 2))) (tTup (tCons (tVar 4) (tCons (tVar 5) tNil)))) tNil)))
      (fun k _ => stT p t x k) (fun _ => true) (fun z => (z.1.reverse, z.2)) rfl h1 h4 (by omega) (fun k _ => stT_wipe p t x k) (fun z mz q' H2 R hq h => ?_) (fun z mz q' H2 bd hq Q k => k H2 (Ex.refl _)) (fun z mz _ q' H2 bd hq Q k => ?_)
    · rw [List.filter_eq_self.mpr (fun _ _ => rfl)] at z
      have i0 : Gives (tOp (rIxT K) (tVar 1) (tC (.int 1))) [some (.ref p), some (.ref t), some (.ref x), none, none, none] H1 (lstV (xs.map V.str)) := fun H2 e Q k => ⟨_, rfl, t, _, 1, .ref b, rfl, rfl, SqT.of (e _ _ h1), atI_nat (xs := [V.ref a, .ref b, .ref d]) (j := 1) rfl, k _ _ (Ex.refl _) ⟨b, rfl, e _ _ h3⟩⟩
      have i1 : Gives (tOp (rIxT K) (tVar 1) (tC (.int 0))) [some (.ref p), some (.ref t), some (.ref x), none, none, none] H1 (lstV (ss.map V.str)) := fun H2 e Q k => ⟨_, rfl, t, _, 0, .ref a, rfl, rfl, SqT.of (e _ _ h1), atI_nat (xs := [V.ref a, .ref b, .ref d]) (j := 0) rfl, k _ _ (Ex.refl _) ⟨a, rfl, e _ _ h2⟩⟩
      refine Fk.Gives.imp (EvP.tuple (EvP.cons i0 (EvP.cons i1 (EvP.cons (g_dictT z tok.nod) EvP.nil))) (by show 3 ≤ 1000; decide)) fun v H ⟨p', vs, ev, hp, hs⟩ => ?_
      cases hs with
      | cons c1 hs => cases hs with
        | cons c2 hs => cases hs with
          | cons c3 hs =>
            cases hs
            obtain ⟨p1, rfl, q1⟩ := c1
            obtain ⟨p2, rfl, q2⟩ := c2
            obtain ⟨p3, rfl, q3, _⟩ := c3
            exact ⟨p', p1, p2, p3, ev, hp, q1, q2, q3⟩
    · obtain ⟨a', x', e⟩ := key z mz
      rw [e] at hq h
      exact ⟨q', _, rfl, SqT.of hq, rfl, _, _, rfl, _, _, rfl, rfl, h⟩
    · obtain ⟨a', x', e⟩ := key z mz
      rw [e] at k ⊢
      obtain ⟨od, fz⟩ := bd.fz
      refine ⟨_, rfl, _, rfl, by show 2 ≤ sizeLine; decide, fun p1 np1 => ?_⟩
      have e1 := Ex.new (o := .tup [V.str x', .str a']) np1
      have q1 : upd H2 p1 (.tup [V.str x', .str a']) p1 = some (.tup [V.str x', .str a']) := upd_same
      generalize upd H2 p1 (.tup [V.str x', .str a']) = H3 at e1 q1 ⊢
      have bd3 := bd.ex e1
      refine ⟨_, rfl, t, _, 2, .ref d, rfl, rfl, SqT.of (bd3.kp _ _ h1 td), atI_nat (xs := [V.ref a, .ref b, .ref d]) (j := 2) rfl, _, rfl, _, rfl, by show 2 ≤ sizeLine; decide, fun p2 np2 => ?_⟩
      have e2 := Ex.new (o := .tup [V.str a', .str x']) np2
      have q2 : upd H3 p2 (.tup [V.str a', .str x']) p2 = some (.tup [V.str a', .str x']) := upd_same
      generalize upd H3 p2 (.tup [V.str a', .str x']) = H4 at e2 q2 ⊢
      obtain ⟨od4, fz4⟩ := (bd3.ex e2).fz
      refine ⟨d, .int z.2, rfl, .inr ⟨tents r, key2 a' x', p2, .inr ⟨od4, fz4⟩, rfl, q2, ?_⟩, by show 2 ≤ sizeLine; decide, fun p3 np3 => ?_⟩
      · rw [valV_tents, (look_mem ok.w.nod).mpr (show (key2 a' x', z.2) ∈ r from by rw [← e]; exact mz)]
        rfl
      · have e3 := Ex.new (o := .tup [V.ref p1, .int z.2]) np3
        exact k _ _ ((e1.trans e2).trans e3) ⟨p3, p1, rfl, upd_same, e3 _ _ (e2 _ _ q1)⟩
  intro v3 H2 e2 hp2
  have lt : ∀ k, wk r k < 10 ^ 70 := fun k => Int.lt_trans (wk_nn ok.w k).2 (by decide)
  have lt2 : ∀ k, wk (turnR r) k < 10 ^ 70 := fun k => Int.lt_trans (wk_nn tok k).2 (by decide)
  have T2 := (tabW C ss xs (wk r)).mono _ _ _ e2 T1
  have gt : ∀ {σ : L2.St}, σ[2]? = some (some (.ref x)) → Gives (tVar 2) σ H2 (tabW C ss xs (wk r)) := fun h => EvP.varP h T2
  have pa2 : PlainAt H2 (.ref t) ss xs r := (plainP ss xs r).mono _ _ _ e2 pa1
  refine EvP.st_ret (P := is (.bl true)) (g_and (g_is5 ok.u ok.s (g_inv ok.s ok.u (gt rfl)) (EvP.varP rfl hp2) tok.good (fun k => turnR_wk ok.w k) lt2) (g_and (g_eqT ok.s ok.u (g_inv ok.u ok.s (g_inv ok.s ok.u (gt rfl))) (gt rfl) fun k => by
    show wk r k.reverse.reverse = wk r k
    rw [List.reverse_reverse]) (g_is5 ok.s ok.u (gt rfl) (EvP.varP rfl pa2) ok.w.good (fun _ => rfl) lt))) fun v H5 e5 ev => ?_
  rw [show v = V.bl true from ev]
  have e25 := e2.trans e5
  exact k sa ga H5 a1 (by omega) ⟨e25 _ _ hP1.p, e25 _ _ hP1.q⟩ fun c o hc ne => e25 _ _ (bt1 _ _ hc ne)
end
end K06

set_option Elab.async false
set_option linter.all false
set_option maxRecDepth 100000
set_option maxHeartbeats 4000000
/-! _law_without_right. -/
namespace K06
open PySem PySem.Spec PyProof.Rows L2 Cm
open DtE (TRow tents lookT valV_tents)
open Tb (key2 PairK wk TblAt TblC Tab TabAt rowsO tmeth firsts spTItem spTEq)
open Fk (NameV nameB srt srt_perm ents)
open EvP (Ex All2 is Gives GivesA)
theorem TblAt_but {C x p q : Addr} {H H' : Hp} {ss xs : List Str} {r : TRow} {ns : List Int} {s g : Int} (hP : Pen H p q ns s g) (e : But p H H') (h : TblAt C H x ss xs r) : TblAt C H' x ss xs r := by
  obtain ⟨dx, n1, n2, dw, p', prs, h1, h2, h3, h4, h5, h6⟩ := h
  have up : ∀ {b o}, H b = some o → o ≠ .lst [.ref q, .int s, .int g] → H' b = some o := fun h n => e _ _ h (ne_of h hP.p n)
  have all : ∀ {ks : List (List Key)} {vs : List V}, All2 H (ks.map fun k => tupV (k.map kV)) vs → All2 H' (ks.map fun k => tupV (k.map kV)) vs := fun {ks} => by
    induction ks with
    | nil => intro vs h; cases h; exact .nil
    | cons k ks ih =>
      intro vs h
      cases h with
      | cons a t =>
        obtain ⟨b, ev, hb⟩ := a
        exact .cons ⟨b, ev, up hb fun z => nomatch z⟩ (ih t)
  exact ⟨dx, n1, n2, dw, p', prs, up h1 (fun z => nomatch z), up h2 (fun z => nomatch z), up h3 (fun z => nomatch z), up h4 (fun z => nomatch z), up h5 (fun z => nomatch z), all h6⟩
theorem offN_congr {ss ns ms : List Str} (h : ∀ x, x ∈ ns ↔ x ∈ ms) : offN ss ns = offN ss ms := by
  unfold offN
  refine List.filter_congr fun x _ => ?_
  by_cases c : x ∈ ns
  · rw [decide_eq_true c, decide_eq_true ((h x).mp c)]
  · rw [decide_eq_false c, decide_eq_false fun z => c ((h x).mpr z)]
theorem strG_congr {g : List Key → Int} {ns ms : List Str} (h : ∀ x, x ∈ ns ↔ x ∈ ms) (k : List Key) : strG g ns k = strG g ms k := by
  unfold strG
  split
  · rename_i a x
    by_cases c : a ∈ ns ∨ x ∈ ns
    · rw [if_pos c, if_pos (c.imp (h a).mp (h x).mp)]
    · rw [if_neg c, if_neg fun z => c (z.imp (h a).mpr (h x).mpr)]
  · rfl
theorem offN_nil (ss : List Str) : offN ss [] = ss := List.filter_eq_self.mpr fun _ _ => rfl
theorem strG_nil {g : List Key → Int} {ss xs : List Str} (out : OutOf ss xs g) (k : List Key) : strG g [] k = g k := by
  by_cases c : ∃ a ∈ ss, ∃ x ∈ xs, k = key2 a x
  · obtain ⟨a, ha, x, hx, rfl⟩ := c
    show (if a ∈ [] ∨ x ∈ [] then 0 else g (key2 a x)) = _
    exact if_neg fun z => z.elim List.not_mem_nil List.not_mem_nil
  · rw [out k c]
    unfold strG
    split
    · split
      · rfl
      · exact out _ c
    · rfl
section
variable {K : PySem.W.Frag} {C : Addr} {σ : L2.St} {H : Hp} {ta tb : TE} {tas : TA} {ss xs ns : List Str} {g : List Key → Int} {r : TRow} {ws : List V}
theorem g_lstV (h : GivesA tas σ H (ws.map is)) (hl : ws.length ≤ 1000) : Gives (tLst tas) σ H (lstV ws) := fun H1 e Q q =>
  h H1 e _ fun vs H2 e2 hs => by
    rw [all2_is hs]
    exact ⟨by rw [sizeLine_eq]; omega, fun p hp => q _ _ (e2.trans (Ex.new hp)) ⟨p, rfl, upd_same⟩⟩
theorem g_wo (sN : NamesOk ss) (uN : NamesOk xs) (h : Gives ta σ H (tabW C ss xs g)) (ht : GivesA tas σ H ((ns.map V.str).map is)) (hin : ∀ n ∈ ns, n ∈ ss ∨ n ∈ xs) (hl : ns.length ≤ 100) : Gives (XG.tMeG C "without" (spWoR C) ta tas) σ H (tabW C (offN ss ns) (offN xs ns) (strG g ns)) := fun H1 e1 Q q =>
  h H1 e1 _ fun v H2 e2 hv => by
    obtain ⟨x, r, rfl, tb, gr, gw⟩ := hv.ex
    obtain ⟨dx, n1, n2, dw, pp, prs, h1, h2, h3, h4, h5, h6⟩ := tb.ex
    refine ⟨x, dx, _, rfl, h1, rfl, ht H2 (e1.trans e2) _ fun vs H3 e3 hs => ?_⟩
    rw [all2_is hs]
    exact ⟨[.ref x], ns.map V.str, rfl, rfl, by rw [List.length_map, sizeLine_eq]; omega, fun p np => ⟨.ref x, p, ss, xs, g, ns, rfl, (tabW C ss xs g).mono _ _ _ (e3.trans (Ex.new np)) hv, sN, uN, upd_same, hin, fun c H' e t => q c H' ((e2.trans e3).trans ((Ex.new np).trans e)) t⟩⟩
theorem g_struck (ok : PlainOk ss xs r) (h : Gives ta σ H (plainP ss xs r)) (k : Gives tb σ H (lstV (ns.map V.str))) : Gives (tCall spStruck [] E0 (tCons ta (tCons tb tNil))) σ H (plainP (offN ss ns) (offN xs ns) (strR r ns)) := fun H1 e1 Q q =>
  h H1 e1 _ fun v H2 e2 hv => k H2 (e1.trans e2) _ fun u H3 e3 ⟨l, eu, hl⟩ => by
    subst eu
    exact ⟨v, l, ss, xs, ns, r, rfl, (plainP ss xs r).mono _ _ _ e3 hv, ok, hl, fun v' H' e p => q v' H' ((e2.trans e3).trans e) p⟩
end
abbrev sWor : Stmt := top 49
abbrev NWor : List Str := ["pen", "plain", "table", "some", "one", "two"]
theorem scWor : FnScope NWor ["pen", "plain"] (defScope sWor) := ⟨rfl, rfl, rfl, by decide +kernel, rfl, by decide +kernel, by decide +kernel⟩
section
variable {P : Program} {w : World} {K : PySem.W.Frag} {mg : Str → Option Value} {base : Heap} {C f fW : Addr} {fd : FuncData}
theorem ok_wor (F : Fun K "_law_without_right" "_law_without_right" sWor f fd) (M : Tbl7 P w K mg base C) (FW : XG.FnRG P w K mg base 7 fW (spWoR C)) (hW : Meth K C "without" fW) (DM : CalG P w K mg base 7 "_law_made" ["pen", "plain"] (spMade C)) (DI : CalG P w K mg base 5 "_law_is" ["table", "plain"] (spIs5 C))
    (DK : CalD P w K mg base 2 "_law_pick" ["pen", "some"] spPick) (DS : CalD P w K mg base 1 "_law_struck" ["plain", "gone"] spStruck) : XG.FnG P w K mg base CX0 8 f fd ["pen", "plain"] spR7 := by
  have nd := scWor.nd
  refine XG.Fun.okG F scWor spR7_len fun cdv A outer sh H vs Q E gd hr h => ?_
  obtain ⟨p, q, ns, s, g, v, ss, xs, r, rfl, hP, hl, s0, s1, pa, ok, k⟩ := h
  refine ⟨_, pss_cons (ps_par (i := 2) (j := 3) (by rfl) nd rfl rfl (by decide) rfl rfl (pa_cons (Tb.pe_callG DM.ok DM.len gd (hr.mono (by decide)) (by rfl) DM.g DM.kp DM.b (pa_cons (pv 0) (pa_cons (pv 1) pa_nil))) (pa_cons (pe_op op_cat (pe_ix ix_tup (pv 1) pe_int (fun _ _ => rfl)) (pe_ix ix_tup (pv 1) pe_int (fun _ _ => rfl))) pa_nil)) (by rfl))
    (pss_cons (ps_if (pt_not (pt_val (Tb.pe_callG DI.ok DI.len gd (hr.mono (by decide)) (by rfl) DI.g DI.kp DI.b (pa_cons (XG.pe_methRG0 (pv 2) M.S.cl hW FW gd hr) (pa_cons (pv 1) pa_nil))))) (pss_one (ps_ret pe_bl)) pss_nil)
    (pss_cons (ps_if (pt_cmpR (op_eqD hr.units) (pv 3) (pe_lst pa_nil) (nomark _)) (pss_one (ps_ret pe_bl)) pss_nil)
    (pss_cons (ps_par (i := 4) (j := 5) (by rfl) nd rfl rfl (by decide) rfl rfl (pa_cons (pe_call DK.ok (hr.mono (by decide)) (by rfl) DK.g DK.kp DK.b .nil pass0 (pa_cons (pv 0) (pa_cons (pv 3) pa_nil))) (pa_cons (pe_call DK.ok (hr.mono (by decide)) (by rfl) DK.g DK.kp DK.b .nil pass0 (pa_cons (pv 0) (pa_cons (pv 3) pa_nil))) pa_nil)) (by rfl))
    (pss_cons (ps_if (pt_not (pt_val (Tb.pe_callG DI.ok DI.len gd (hr.mono (by decide)) (by rfl) DI.g DI.kp DI.b (pa_cons (XG.pe_methRG (pv 2) M.S.cl hW FW gd hr (pa_cons (pv 4) pa_nil)) (pa_cons (pe_call DS.ok (hr.mono (by decide)) (by rfl) DS.g DS.kp DS.b .nil pass0 (pa_cons (pv 1) (pa_cons (pe_lst (pa_cons (pv 4) pa_nil)) pa_nil))) pa_nil))))) (pss_one (ps_ret pe_bl)) pss_nil)
    (pss_one (ps_ret (pe_and (Tb.pe_callG DI.ok DI.len gd (hr.mono (by decide)) (by rfl) DI.g DI.kp DI.b (pa_cons (XG.pe_methRG (pv 2) M.S.cl hW FW gd hr (pa_cons (pv 5) (pa_cons (pv 4) pa_nil))) (pa_cons (pe_call DS.ok (hr.mono (by decide)) (by rfl) DS.g DS.kp DS.b .nil pass0 (pa_cons (pv 1) (pa_cons (pe_lst (pa_cons (pv 4) (pa_cons (pv 5) pa_nil))) pa_nil))) pa_nil)))
      (pe_one (Tb.pe_callG DI.ok DI.len gd (hr.mono (by decide)) (by rfl) DI.g DI.kp DI.b (pa_cons (pv 2) (pa_cons (pv 1) pa_nil))))))))))), ?_⟩
  refine ⟨_, rfl, _, rfl, p, q, ns, s, g, v, ss, xs, r, rfl, hP, hl, s0, by omega, pa, ok, fun x r1 sa ga H1 tb al a1 a2 hP1 bt1 => ?_⟩
  have pa1 := pa.but hP bt1
  obtain ⟨g1, w1⟩ := al.good ok.w.good
  have T1 : TabW C ss xs (wk r) (.ref x) H1 := ⟨x, r1, rfl, tb, g1, w1⟩
  obtain ⟨t, a, b, d, rfl, h1, h2, h3, h4⟩ := pa1.ex
  have S6 := ok.s.few
  have X6 := ok.u.few
  refine ⟨_, rfl, t, _, 0, .ref a, rfl, rfl, SqT.of h1, atI_nat (xs := [V.ref a, .ref b, .ref d]) (j := 0) rfl, _, rfl, t, _, 1, .ref b, rfl, rfl, SqT.of h1, atI_nat (xs := [V.ref a, .ref b, .ref d]) (j := 1) rfl, a, b, _, _, rfl, rfl, h2, h3, by rw [List.length_map, List.length_map, sizeLine_eq]; omega, fun l nl => ?_⟩
  rw [← List.map_append]
  have e2 := Ex.new (o := .lst ((ss ++ xs).map V.str)) nl
  have hl2 : upd H1 l (.lst ((ss ++ xs).map V.str)) l = some (.lst ((ss ++ xs).map V.str)) := upd_same
  have lp : l ≠ p := (ne_of_none hP1.p nl).symm
  have hP2 := Pen.new (o := .lst ((ss ++ xs).map V.str)) nl hP1
  generalize upd H1 l (.lst ((ss ++ xs).map V.str)) = H2 at e2 hl2 hP2 ⊢
  refine ⟨_, _, rfl, ?_⟩
  have T2 := (tabW C ss xs (wk r)).mono _ _ _ e2 T1
  have pa2 : PlainAt H2 (.ref t) ss xs r := (plainP ss xs r).mono _ _ _ e2 pa1
  have b02 : But p H H2 := fun c o hc ne => e2 _ _ (bt1 _ _ hc ne)
  have lt : ∀ k, wk r k < 10 ^ 70 := fun k => Int.lt_trans (wk_nn ok.w k).2 (by decide)
  have lts : ∀ ns k, wk (strR r ns) k < 10 ^ 70 := fun ns k => Int.lt_trans (wk_nn (strR_ok (ns := ns) ok.w) k).2 (by decide)
  dsimp only
  -- if not _law_is(table.without(), plain)
  have w0 := g_wo (σ := [some (.ref p), some (.ref t), some (.ref x), some (.ref l), none, none]) (ns := []) (tas := tNil) ok.s ok.u (EvP.varP (i := 2) rfl T2) EvP.nil (fun n hn => nomatch hn) (by decide)
  rw [offN_nil, offN_nil] at w0
  refine Cm.st_ifF (t_not (b := true) (t_val (g_is5 ok.s ok.u w0 (EvP.varP rfl pa2) ok.w.good (strG_nil T2.out) lt))) fun H3 e3 => ?_
  have hP3 : Pen H3 p q ns sa ga := ⟨e3 _ _ hP2.p, e3 _ _ hP2.q⟩
  have hl3 := e3 _ _ hl2
  have b03 : But p H H3 := fun c o hc ne => e3 _ _ (b02 _ _ hc ne)
  have T3 := (tabW C ss xs (wk r)).mono _ _ _ e3 T2
  have pa3 : PlainAt H3 (.ref t) ss xs r := (plainP ss xs r).mono _ _ _ e3 pa2
  -- if some == []
  have okS : ∀ z ∈ ss ++ xs, PyData.strOk z = true := fun z hz => (List.mem_append.mp hz).elim (fun h => ok_str (ok.s.nm z h)) fun h => ok_str (ok.u.nm z h)
  refine ⟨_, rfl, by show 0 ≤ sizeLine; decide, fun l0 nl0 => ?_⟩
  have e4 := Ex.new (o := .lst []) nl0
  refine ⟨.list ((ss ++ xs).map PyData.str), .list [], .lst (SqL.of (e4 _ _ hl3)) (Tb.dp_strs _), .lst (SqL.of upd_same) .nil, shaped_strsL okS, rfl, ?_⟩
  have eqq : PyData.eqv (.list ((ss ++ xs).map PyData.str)) (.list []) = decide (ss ++ xs = []) := eqv_strsL (ss ++ xs) []
  rw [eqq]
  have hP4 := Pen.new (o := .lst []) nl0 hP3
  have hl4 := e4 _ _ hl3
  have b04 : But p H (upd H3 l0 (.lst [])) := fun c o hc ne => e4 _ _ (b03 _ _ hc ne)
  have T4 := (tabW C ss xs (wk r)).mono _ _ _ e4 T3
  have pa4 : PlainAt (upd H3 l0 (.lst [])) (.ref t) ss xs r := (plainP ss xs r).mono _ _ _ e4 pa3
  generalize upd H3 l0 (.lst []) = H4 at hP4 hl4 b04 T4 pa4 ⊢
  refine ⟨_, rfl, ?_⟩
  by_cases em : ss ++ xs = []
  · rw [decide_eq_true em]
    exact k sa ga H4 a1 (by omega) hP4 b04
  rw [decide_eq_false em]
  refine iteF ?_
  dsimp only [tNext]
  have ln : 0 < ((ss ++ xs).map V.str).length := by
    rw [List.length_map]
    exact List.length_pos_iff.mpr em
  have ll : ((ss ++ xs).map V.str).length < 100000 := by
    rw [List.length_map, List.length_append]
    omega
  -- one, two = ..
  refine ⟨_, rfl, _, rfl, p, q, ns, sa, ga, l, _, rfl, hP4, hl, by omega, by omega, hl4, lp, ln, ll, fun v1 sb gb H5 hv1 b1 b2 hP5 hB5 => ?_⟩
  obtain ⟨n1, m1, rfl⟩ := List.mem_map.mp hv1
  have hl5 := hB5 _ _ hl4 lp
  refine ⟨_, rfl, _, rfl, p, q, ns, sb, gb, l, _, rfl, hP5, hl, by omega, by omega, hl5, lp, ln, ll, fun v2 sc gc H6 hv2 c1 c2 hP6 hB6 => ?_⟩
  obtain ⟨n2, m2, rfl⟩ := List.mem_map.mp hv2
  refine ⟨_, _, rfl, ?_⟩
  have b06 : But p H H6 := fun c o hc ne => hB6 _ _ (hB5 _ _ (b04 _ _ hc ne) ne) ne
  have pa6 := (pa4.but hP4 hB5).but hP5 hB6
  have tbut : ∀ {H H' : Hp} {s g : Int}, Pen H p q ns s g → But p H H' → TabW C ss xs (wk r) (.ref x) H → TabW C ss xs (wk r) (.ref x) H' := fun hP bt h => by
    obtain ⟨x', r', ex, tb', g', w'⟩ := h.ex
    exact ⟨x', r', ex, TblAt_but hP bt tb', g', w'⟩
  have T6 := tbut hP5 hB6 (tbut hP4 hB5 T4)
  have i1 : n1 ∈ ss ∨ n1 ∈ xs := List.mem_append.mp m1
  have i2 : n2 ∈ ss ∨ n2 ∈ xs := List.mem_append.mp m2
  dsimp only
  -- if not _law_is(table.without(one), ..)
  refine Cm.st_ifF (t_not (b := true) (t_val (g_is5 (offN_ok ok.s) (offN_ok ok.u) (g_wo (ns := [n1]) ok.s ok.u (EvP.varP (i := 2) rfl T6) (EvP.cons (EvP.var rfl) EvP.nil) (fun n hn => by rw [List.mem_singleton.mp hn]; exact i1) (by show 1 ≤ 100; decide)) (g_struck (ns := [n1]) ok (EvP.varP rfl pa6) (g_lstV (ws := [.str n1]) (EvP.cons (EvP.var rfl) EvP.nil) (by show 1 ≤ 1000; decide))) (strR_ok ok.w).good (strR_wk ok.w) (lts _)))) fun H7 e7 => ?_
  have T7 := (tabW C ss xs (wk r)).mono _ _ _ e7 T6
  have pa7 : PlainAt H7 (.ref t) ss xs r := (plainP ss xs r).mono _ _ _ e7 pa6
  have sw : ∀ z, z ∈ [n2, n1] ↔ z ∈ [n1, n2] := fun z => by
    simp only [List.mem_cons, List.not_mem_nil, or_false]
    exact or_comm
  have w2 := g_wo (σ := [some (.ref p), some (.ref t), some (.ref x), some (.ref l), some (.str n1), some (.str n2)]) (H := H7) (tas := tCons (tVar 5) (tCons (tVar 4) tNil)) (ns := [n2, n1]) ok.s ok.u (EvP.varP (i := 2) rfl T7) (EvP.cons (EvP.var rfl) (EvP.cons (EvP.var rfl) EvP.nil)) (fun n hn => by
    simp only [List.mem_cons, List.not_mem_nil, or_false] at hn
    rcases hn with rfl | rfl
    · exact i2
    · exact i1) (by show 2 ≤ 100; decide)
  rw [offN_congr sw, offN_congr sw] at w2
  refine EvP.st_ret (P := is (.bl true)) (g_and (g_is5 (offN_ok ok.s) (offN_ok ok.u) w2 (g_struck (ns := [n1, n2]) ok (EvP.varP rfl pa7) (g_lstV (ws := [.str n1, .str n2]) (EvP.cons (EvP.var rfl) (EvP.cons (EvP.var rfl) EvP.nil)) (by show 2 ≤ 1000; decide))) (strR_ok ok.w).good (fun k => (strG_congr sw k).trans (strR_wk ok.w k)) (lts _)) (g_is5 ok.s ok.u (EvP.varP rfl T7) (EvP.varP rfl pa7) ok.w.good (fun _ => rfl) lt)) fun v H8 e8 ev => ?_
  rw [show v = V.bl true from ev]
  have e78 := e7.trans e8
  exact k sc gc H8 (by omega) (by omega) ⟨e78 _ _ hP6.p, e78 _ _ hP6.q⟩ fun c o hc ne => e78 _ _ (b06 _ _ hc ne)
end
end K06

set_option Elab.async false
set_option linter.all false
set_option maxRecDepth 100000
set_option maxHeartbeats 4000000
/-! _law_worth_right. -/
namespace K06
open PySem PySem.Spec PyProof.Rows L2 Cm
open DtE (TRow tents lookT valV_tents)
open Tb (key2 PairK wk TblAt TblC Tab TabAt rowsO tmeth firsts spTItem spTEq)
open Fk (NameV nameB srt srt_perm ents)
open EvP (Ex All2 is Gives GivesA)
abbrev rInt1 : List V → Hp → VK → Prop := fun xs H Q => (∃ i, xs = [.int i] ∧ Q (.int i) H) ∨ ∃ k, xs = [.bl k] ∧ Q (.int (if k then 1 else 0)) H
def kwW {α : Type} : List α → List α → List α
  | [x], [w, u, s] => [x, s, u, w]
  | _, _ => []
theorem addN_ok {ss : List Str} {s : Str} (n : NamesOk ss) (h : NameV (.str s)) (l : ¬ (s ∉ ss ∧ 5 < ss.length)) : NamesOk (addN ss s) := ⟨addN_nod n.nod, fun x hx => (mem_addN.mp hx).elim (n.nm x) fun e => by rw [e]; exact h, by
  unfold addN
  by_cases c : s ∈ ss
  · rw [if_pos c]
    exact n.few
  · rw [if_neg c, List.length_append]
    have : ¬ 5 < ss.length := fun z => l ⟨c, z⟩
    show ss.length + 1 ≤ 6
    omega⟩
/-- another worth of one pair, in the law's dict -/
def putT (r : TRow) (k : List Key) (n : Int) : TRow := (r.filter fun z => !decide (z.1 = k)) ++ if 0 < n then [(k, n)] else []
theorem putT_nod {r : TRow} {k : List Key} {n : Int} (h : (r.map (·.1)).Nodup) : ((putT r k n).map (·.1)).Nodup := by
  unfold putT
  have n1 := nod_filter (p := fun z => !decide (z.1 = k)) h
  split
  · rw [List.map_append, List.nodup_append]
    refine ⟨n1, by simp, fun x hx y hy e => ?_⟩
    obtain ⟨z, hz, rfl⟩ := List.mem_map.mp hx
    have h2 := (List.mem_filter.mp hz).2
    rw [List.map_singleton, List.mem_singleton] at hy
    rw [e, hy, decide_eq_true rfl] at h2
    cases h2
  · rw [List.append_nil]
    exact n1
theorem putT_ok {ss xs : List Str} {r : TRow} {so us : Str} {n : Int} (w : WorthsOk ss xs r) (n1 : n < 10 ^ 30) : WorthsOk (addN ss so) (addN xs us) (putT r (key2 so us) n) := by
  refine ⟨putT_nod w.nod, fun t ht => ?_, fun t ht => ?_⟩
  · unfold putT at ht
    rcases List.mem_append.mp ht with ht | ht
    · obtain ⟨a, ha, x, hx, e⟩ := w.key t (List.mem_filter.mp ht).1
      exact ⟨a, mem_addN.mpr (.inl ha), x, mem_addN.mpr (.inl hx), e⟩
    · by_cases c : 0 < n
      · rw [if_pos c, List.mem_singleton] at ht
        rw [ht]
        exact ⟨so, mem_addN.mpr (.inr rfl), us, mem_addN.mpr (.inr rfl), rfl⟩
      · rw [if_neg c] at ht
        cases ht
  · unfold putT at ht
    rcases List.mem_append.mp ht with ht | ht
    · exact w.pos t (List.mem_filter.mp ht).1
    · by_cases c : 0 < n
      · rw [if_pos c, List.mem_singleton] at ht
        rw [ht]
        exact ⟨c, n1⟩
      · rw [if_neg c] at ht
        cases ht
theorem putT_wk {r : TRow} {key : List Key} {n : Int} (nod : (r.map (·.1)).Nodup) (n0 : 0 ≤ n) (k : List Key) : putG (wk r) key n k = wk (putT r key n) k := by
  have n2 := putT_nod (k := key) (n := n) nod
  unfold putG
  by_cases c : k = key
  · rw [if_pos c]
    by_cases p : 0 < n
    · unfold wk
      rw [(look_mem n2).mpr (show (k, n) ∈ putT r key n from by unfold putT; rw [if_pos p, c]; exact List.mem_append_right _ (List.mem_singleton.mpr rfl))]
      rfl
    · have : n = 0 := by omega
      rw [this]
      unfold wk
      cases q : lookT (putT r key 0) k with
      | none => rfl
      | some v =>
        have m := (look_mem (putT_nod (k := key) (n := 0) nod)).mp q
        unfold putT at m
        rw [if_neg (by decide), List.append_nil] at m
        have h := (List.mem_filter.mp m).2
        rw [decide_eq_true c] at h
        cases h
  · rw [if_neg c]
    unfold wk
    cases q : lookT r k with
    | some v =>
      have m := (look_mem nod).mp q
      rw [(look_mem n2).mpr (show (k, v) ∈ putT r key n from by unfold putT; exact List.mem_append_left _ (List.mem_filter.mpr ⟨m, by rw [decide_eq_false c]; rfl⟩))]
    | none =>
      cases q2 : lookT (putT r key n) k with
      | none => rfl
      | some v =>
        have m := (look_mem n2).mp q2
        unfold putT at m
        rcases List.mem_append.mp m with m | m
        · rw [(look_mem nod).mpr (List.mem_filter.mp m).1] at q
          cases q
        · by_cases p : 0 < n
          · rw [if_pos p, List.mem_singleton] at m
            exact absurd (Prod.mk.inj m).1 c
          · rw [if_neg p] at m
            cases m
/-- names of the list, or the new one -/
def someP (ss : List Str) : EvP.PR := ⟨fun v H => ∃ (a : Addr) (vs : List V), v = .ref a ∧ H a = some (.lst vs) ∧ (∀ z ∈ vs, ∃ n, z = .str n ∧ (n ∈ ss ∨ n = "new")) ∧ 0 < vs.length ∧ vs.length < 1000, fun v H H' e h => by
  obtain ⟨a, vs, h1, h2, h3⟩ := h
  exact ⟨a, vs, h1, e _ _ h2, h3⟩⟩
section
variable {K : PySem.W.Frag} {C : Addr} {σ : L2.St} {H : Hp} {ta tb te : TE} {tt tu : TT} {ss xs : List Str} {g : List Key → Int} {b1 b2 : Bool}
theorem t_orB (h : Tst tt σ H b1) (k : Tst tu σ H b2) : Tst (tOr tt tu) σ H (b1 || b2) := fun H1 e Q q => h H1 e _ fun H2 e2 => by
  cases b1 with
  | true => exact q H2 e2
  | false => exact k H2 (e.trans e2) Q fun H3 e3 => q H3 (e2.trans e3)
theorem t_andB (h : Tst tt σ H b1) (k : Tst tu σ H b2) : Tst (tAnd tt tu) σ H (b1 && b2) := fun H1 e Q q => h H1 e _ fun H2 e2 => by
  cases b1 with
  | false => exact q H2 e2
  | true => exact k H2 (e.trans e2) Q fun H3 e3 => q H3 (e2.trans e3)
theorem t_len5 {ls : List Str} {rr : List V → Hp → VK → Prop} (h : Gives te σ H (lstV (ls.map V.str))) (hr : ∀ p H1 Q, SqL K H1 p (ls.map V.str) → Q (.int ((ls.map V.str).length : Nat)) H1 → rr [.ref p] H1 Q) :
    Tst (tTest (tOp (rI0 fun i j => .bl (decide (j < i))) (tCB rr (tCons te tNil)) (tC (.int 5)))) σ H (decide (5 < ls.length)) :=
  t_test (g_op (P := is (.int (ls.length : Nat))) (R := is (.int 5)) (g_call h fun v H1 e ⟨a, ev, ha⟩ Q q => by
    subst ev
    exact hr a H1 Q (SqL.of ha) (q _ _ (Ex.refl _) (by rw [List.length_map]; rfl))) EvP.cst fun x y H1 e ex ey Q q => ⟨(ls.length : Nat), 5, ex, ey, q _ _ (Ex.refl _) (by
    show V.bl (decide ((5 : Int) < (ls.length : Nat))) = V.bl (decide (5 < ls.length))
    by_cases c : 5 < ls.length
    · rw [decide_eq_true c, decide_eq_true (by omega)]
    · rw [decide_eq_false c, decide_eq_false (by omega)])⟩)
theorem g_ixP {i : Nat} {t a b d p : Addr} {jj : Int} (hi : σ[i]? = some (some (.ref t))) (ht : H t = some (.tup [.ref a, .ref b, .ref d])) (hj : atI [V.ref a, .ref b, .ref d] jj = some (.ref p)) (hp : H p = some (.lst (ss.map V.str))) : Gives (tOp (rIxT K) (tVar i) (tC (.int jj))) σ H (lstV (ss.map V.str)) := fun H1 e Q k =>
  ⟨_, hi, t, _, jj, .ref p, rfl, rfl, SqT.of (e _ _ ht), hj, k _ _ (Ex.refl _) ⟨p, rfl, e _ _ hp⟩⟩
theorem g_someP (h : Gives te σ H (lstV (ss.map V.str))) (l : ss.length ≤ 6) : Gives (tOp rCat (tSl (rSlL K) te tNoPart (tPart (tC (.int 5)))) (tLst (tCons (tC (.str "new")) tNil))) σ H (someP ss) := fun H1 e1 Q q =>
  h H1 e1 _ fun v H2 e2 ⟨a, ev, ha⟩ => by
    subst ev
    refine ⟨5, rfl, a, _, rfl, SqL.of ha, fun c nc => ⟨by show 1 ≤ sizeLine; decide, fun d nd => ?_⟩⟩
    have e3 := Ex.new (o := .lst (cutV (ss.map V.str) none (some 5))) nc
    have e4 := Ex.new (o := .lst [V.str "new"]) nd
    have ln := cutV_length (ss.map V.str) none (some 5)
    rw [List.length_map] at ln
    refine ⟨c, d, _, _, rfl, rfl, e4 _ _ upd_same, upd_same, by rw [sizeLine_eq]; show _ + 1 ≤ _; omega, fun p np => q _ _ (((e2.trans e3).trans e4).trans (Ex.new np)) ⟨p, _, rfl, upd_same, fun z hz => ?_, by rw [List.length_append]; show 0 < _ + 1; omega, by rw [List.length_append]; show _ + 1 < 1000; omega⟩⟩
    rcases List.mem_append.mp hz with hz | hz
    · have hm : z ∈ ss.map V.str := List.mem_of_mem_drop (List.mem_of_mem_take hz)
      obtain ⟨n, hn, rfl⟩ := List.mem_map.mp hm
      exact ⟨n, rfl, .inl hn⟩
    · exact ⟨"new", List.mem_singleton.mp hz, .inr rfl⟩
theorem g_ninL {m : Nat} {n : Str} (hm : σ[m]? = some (some (.str n))) (h : Gives te σ H (lstV (ss.map V.str))) : Gives (tOp (rIn K true) (tVar m) te) σ H (is (.bl (!decide (n ∈ ss)))) :=
  g_op (P := is (.str n)) (EvP.var hm) h fun x y H1 _ ex ⟨p, ey, hp⟩ Q q => by
    subst ey
    refine ⟨p, _, rfl, .inl (SqL.of hp), by rw [show x = _ from ex]; rfl, flat_strs ss, q _ _ (Ex.refl _) ?_⟩
    rw [if_pos rfl, show x = _ from ex, inV_str]
    rfl
/-- names + [n] * int(n not in names) -/
theorem g_addN {m : Nat} {n : Str} (hm : σ[m]? = some (some (.str n))) (h : Gives te σ H (lstV (ss.map V.str))) (l : ss.length ≤ 6) : Gives (tOp rCat te (tOp rRep (tLst (tCons (tVar m) tNil)) (tCB rInt1 (tCons (tOp (rIn K true) (tVar m) te) tNil)))) σ H (lstV ((addN ss n).map V.str)) := by
  have i1 : Gives (tCB rInt1 (tCons (tOp (rIn K true) (tVar m) te) tNil)) σ H (is (.int (if (!decide (n ∈ ss)) = true then 1 else 0))) := g_call (g_ninL (K := K) hm h) fun v H1 _ ev Q q => .inr ⟨_, by rw [show v = _ from ev], q _ _ (Ex.refl _) rfl⟩
  have i2 : Gives (tOp rRep (tLst (tCons (tVar m) tNil)) (tCB rInt1 (tCons (tOp (rIn K true) (tVar m) te) tNil))) σ H (lstV ((if n ∈ ss then [] else [n]).map V.str)) := by
    refine g_op (P := lstV [.str n]) (R := is (.int (if (!decide (n ∈ ss)) = true then 1 else 0))) (g_lstV (ws := [.str n]) (EvP.cons (EvP.var hm) EvP.nil) (by show 1 ≤ 1000; decide)) i1 fun x y H1 _ ⟨p, ex, hp⟩ ey Q q => ?_
    subst ex
    refine ⟨p, _, _, rfl, ey, hp, ?_, ?_, ?_, fun c nc => q _ _ (Ex.new nc) ⟨c, rfl, ?_⟩⟩
    · split <;> decide
    · split <;> decide
    · split <;> (show 1 * _ ≤ sizeLine; rw [sizeLine_eq]; decide)
    · rw [upd_same]
      by_cases c : n ∈ ss
      · rw [decide_eq_true c, if_pos c]
        rfl
      · rw [decide_eq_false c, if_neg c]
        rfl
  refine g_op (P := lstV (ss.map V.str)) (R := lstV ((if n ∈ ss then [] else [n]).map V.str)) h i2 fun x y H1 _ ⟨p, ex, hp⟩ ⟨q', ey, hq⟩ Q k => ?_
  subst ex
  subst ey
  refine ⟨p, q', _, _, rfl, rfl, hp, hq, ?_, fun c nc => k _ _ (Ex.new nc) ⟨c, rfl, ?_⟩⟩
  · rw [List.length_map, List.length_map, sizeLine_eq]
    split
    · show ss.length + 0 ≤ _
      omega
    · show ss.length + 1 ≤ _
      omega
  · rw [upd_same]
    unfold addN
    split
    · rw [List.map_nil, List.append_nil]
    · rw [List.map_append]
theorem go_wth {v : V} {so us : Str} {n : Int} {Q : VK} (hv : TabW C ss xs g v H) (sN : NamesOk ss) (uN : NamesOk xs) (s2 : NamesOk (addN ss so)) (u2 : NamesOk (addN xs us)) (n0 : 0 ≤ n) (q : ∀ c H', Ex H H' → TabW C (addN ss so) (addN xs us) (putG g (key2 so us) n) c H' → Q c H') : spTWth C [v, .str so, .str us, .int n] H Q E0 := ⟨v, ss, xs, g, so, us, n, rfl, hv, sN, uN, s2, u2, n0, q⟩
theorem g_wth {i j l m : Nat} {v : V} {so us : Str} {n : Int} (hi : σ[i]? = some (some v)) (hj : σ[j]? = some (some (.str so))) (hl : σ[l]? = some (some (.str us))) (hm : σ[m]? = some (some (.int n))) (hv : TabW C ss xs g v H) (sN : NamesOk ss) (uN : NamesOk xs) (s2 : NamesOk (addN ss so)) (u2 : NamesOk (addN xs us)) (n0 : 0 ≤ n) :
    Gives (XG.tMeG C "with_worth" (spTWth C) (tVar i) (tCons (tVar j) (tCons (tVar l) (tCons (tVar m) tNil)))) σ H (tabW C (addN ss so) (addN xs us) (putG g (key2 so us) n)) := fun H1 e1 Q q => by
  have hv1 := (tabW C ss xs g).mono _ _ _ e1 hv
  obtain ⟨x, r, rfl, tb, gr, gw⟩ := hv1.ex
  obtain ⟨dx, n1, n2, dw, pp, prs, h1, _⟩ := tb.ex
  exact ⟨_, hi, x, dx, _, rfl, h1, rfl, _, hj, _, hl, _, hm, go_wth hv1 sN uN s2 u2 n0 q⟩
theorem g_wthK {i j l m : Nat} {v : V} {so us : Str} {n : Int} (hi : σ[i]? = some (some v)) (hj : σ[j]? = some (some (.str so))) (hl : σ[l]? = some (some (.str us))) (hm : σ[m]? = some (some (.int n))) (hv : TabW C ss xs g v H) (sN : NamesOk ss) (uN : NamesOk xs) (s2 : NamesOk (addN ss so)) (u2 : NamesOk (addN xs us)) (n0 : 0 ≤ n) :
    Gives (XG.tMeKG C "with_worth" (spTWth C) kwW (tVar i) (tCons (tVar m) (tCons (tVar l) (tCons (tVar j) tNil)))) σ H (tabW C (addN ss so) (addN xs us) (putG g (key2 so us) n)) := fun H1 e1 Q q => by
  have hv1 := (tabW C ss xs g).mono _ _ _ e1 hv
  obtain ⟨x, r, rfl, tb, gr, gw⟩ := hv1.ex
  obtain ⟨dx, n1, n2, dw, pp, prs, h1, _⟩ := tb.ex
  exact ⟨_, hi, x, dx, _, rfl, h1, rfl, _, hm, _, hl, _, hj, go_wth hv1 sN uN s2 u2 n0 q⟩
end
end K06

set_option Elab.async false
set_option linter.all false
set_option maxRecDepth 100000
set_option maxHeartbeats 4000000
/-! _law_worth_right: the def. -/
namespace K06
open PySem PySem.Spec PyProof.Rows L2 Cm
open DtE (TRow tents lookT valV_tents)
open Tb (key2 PairK wk TblAt TblC Tab TabAt rowsO tmeth firsts spTItem spTEq)
open Fk (NameV nameB srt srt_perm ents)
open EvP (Ex All2 is Gives GivesA)
abbrev sWthr : Stmt := top 47
abbrev NWr : List Str := ["pen", "plain", "table", "worth_so", "source", "use", "found", "due", "pair"]
theorem scWthr : FnScope NWr ["pen", "plain"] (defScope sWthr) := ⟨rfl, rfl, rfl, by decide +kernel, rfl, by decide +kernel, by decide +kernel⟩
theorem tab_but {C p q : Addr} {ns : List Int} {s g : Int} {H H' : Hp} {ss xs : List Str} {w : List Key → Int} {v : V} (hP : Pen H p q ns s g) (bt : But p H H') (h : TabW C ss xs w v H) : TabW C ss xs w v H' := by
  obtain ⟨x', r', ex, tb', g', w'⟩ := h.ex
  exact ⟨x', r', ex, TblAt_but hP bt tb', g', w'⟩
theorem name_new : NameV (.str "new") := (namesOk_of (ss := ["new"]) (by decide +kernel)).nm "new" (by simp)
theorem shaped_pair {a b : Str} (ha : PyData.strOk a = true) (hb : PyData.strOk b = true) : SeqAt.shaped (.tuple ([a, b].map PyData.str)) = true := by
  show (PyData.canLayAll0 ([a, b].map PyData.str) && decide (PyData.depthAll ([a, b].map PyData.str) + 1 ≤ 64)) = true
  rw [Tb.lay_strs (fun s hs => by
    simp only [List.mem_cons, List.not_mem_nil, or_false] at hs
    rcases hs with rfl | rfl
    · exact ha
    · exact hb), Tb.depth_strs]
  rfl
section
variable {P : Program} {w : World} {K : PySem.W.Frag} {mg : Str → Option Value} {base : Heap} {C f fW : Addr} {fd fdW : FuncData}
theorem ok_wthr (F : Fun K "_law_worth_right" "_law_worth_right" sWthr f fd) (M : Tbl7 P w K mg base C) (T : Blt mg) (hD : mg "dict" = none) (GW : XG.FnG P w K mg base CX0 7 fW fdW ["self", "source", "use", "worth"] (spTWth C)) (hW : Meth K C "with_worth" fW) (bW : Binds K fdW ["self", "source", "use", "worth"] []) (kW : KBinds K fdW ["self", "source", "use", "worth"] ["worth", "use", "source"] kwW kwW)
    (DM : CalG P w K mg base 7 "_law_made" ["pen", "plain"] (spMade C)) (DI : CalG P w K mg base 5 "_law_is" ["table", "plain"] (spIs5 C)) (DK : CalD P w K mg base 2 "_law_pick" ["pen", "some"] spPick) : XG.FnG P w K mg base CX0 8 f fd ["pen", "plain"] spR7 := by
  have nd := scWthr.nd
  refine XG.Fun.okG F scWthr spR7_len fun cdv A outer sh H vs Q E gd hr h => ?_
  obtain ⟨p, q, ns, s, g, v, ss, xs, r, rfl, hP, hl, s0, s1, pa, ok, k⟩ := h
  have hu := hu_of hr
  have hu2 : A.units + 3 + 2 < cLine := by
    have : A.units + 3 + 16 * 7 + 200 < cLine := hr.un
    omega
  refine ⟨_, pss_cons (ps_par (i := 2) (j := 3) (by rfl) nd rfl rfl (by decide) rfl rfl (pa_cons (Tb.pe_callG DM.ok DM.len gd (hr.mono (by decide)) (by rfl) DM.g DM.kp DM.b (pa_cons (pv 0) (pa_cons (pv 1) pa_nil))) (pa_cons (pe_call DK.ok (hr.mono (by decide)) (by rfl) DK.g DK.kp DK.b .nil pass0 (pa_cons (pv 0) (pa_cons (pe_lst (pa_cons pe_int (pa_cons pe_int (pa_cons pe_int (pa_cons (pe_op op_sub (pe_op op_pow pe_int pe_int) pe_int) pa_nil))))) pa_nil))) pa_nil)) (by rfl))
    (pss_cons (ps_asg (pe_tup (pa_cons (pe_call DK.ok (hr.mono (by decide)) (by rfl) DK.g DK.kp DK.b .nil pass0 (pa_cons (pv 0) (pa_cons (pe_op op_cat (pe_slice sl_list (pe_ix ix_tup (pv 1) pe_int (fun _ _ => rfl)) po_none (po_some pe_int)) (pe_lst (pa_cons pe_str pa_nil))) pa_nil)))
        (pa_cons (pe_call DK.ok (hr.mono (by decide)) (by rfl) DK.g DK.kp DK.b .nil pass0 (pa_cons (pv 0) (pa_cons (pe_op op_cat (pe_slice sl_list (pe_ix ix_tup (pv 1) pe_int (fun _ _ => rfl)) po_none (po_some pe_int)) (pe_lst (pa_cons pe_str pa_nil))) pa_nil))) pa_nil)))
      (pg_tup rfl (pgs_cons (pg_name (i := 4) nd rfl (Or.inr rfl)) (pgs_cons (pg_name (i := 5) nd rfl (Or.inr rfl)) pgs_nil))))
    (pss_cons (ps_if (PW.pt (pw_or (PW.pt (pw_and (pt_cmpR op_notIn_seq (pv 4) (pe_ix ix_tup (pv 1) pe_int (fun _ _ => rfl)) (by rfl)) (pw_and1 (pt_cmpR op_gt (pe_callB call_len_seq (by rfl) T.len PySem.boot_len (pa_cons (pe_ix ix_tup (pv 1) pe_int (fun _ _ => rfl)) pa_nil)) pe_int (nomark _)))))
        (pw_or1 (PW.pt (pw_and (pt_cmpR op_notIn_seq (pv 5) (pe_ix ix_tup (pv 1) pe_int (fun _ _ => rfl)) (by rfl)) (pw_and1 (pt_cmpR op_gt (pe_callB call_len_seq (by rfl) T.len PySem.boot_len (pa_cons (pe_ix ix_tup (pv 1) pe_int (fun _ _ => rfl)) pa_nil)) pe_int (nomark _)))))))) (pss_one (ps_ret pe_bl)) pss_nil)
    (pss_cons (ps_set (i := 6) nd rfl (Or.inl rfl) (pe_callTy (T := "dict") (call_dictT rfl hu2) (by rfl) hD (by decide +kernel) (pa_cons (pe_lock (pe_lc (own := [("pair", 8)]) (g := gName 8) (tt := tTest (tOp (rNeD K) (tVar 8) (tTup (tCons (tVar 4) (tCons (tVar 5) tNil))))) (te := tTup (tCons (tVar 8) (tCons (tDGet (tOp (rIxT K) (tVar 1) (tC (.int 2))) (tVar 8)) tNil))) rfl nd (pi_keys (pe_ix ix_tup (pv 1) pe_int (fun _ _ => rfl))) (blkOk_by (N := NWr) (sc := defScope sWthr) (by decide +kernel))
        (fun _ _ _ _ _ => pg_name (i := 8) nd rfl (Or.inl rfl)) (fun _ _ _ _ _ => pts_one (pt_cmpR (op_neD hr.units) (pv 8) (pe_tup (pa_cons (pv 4) (pa_cons (pv 5) pa_nil))) (nomark _)))
        (fun _ _ _ _ _ => pe_tup (pa_cons (pv 8) (pa_cons (pe_dget hu (pe_ix ix_tup (pv 1) pe_int (fun _ _ => rfl)) (pv 8) (fun _ _ => rfl)) pa_nil))))) pa_nil)))
    (pss_cons (ps_if (pt_cmpR op_gt (pv 3) pe_int (nomark _)) (pss_one (ps_dput hu (pv 6) (pe_tup (pa_cons (pv 4) (pa_cons (pv 5) pa_nil))) (pv 3) rfl)) pss_nil)
    (pss_cons (ps_set (i := 7) nd rfl (Or.inl rfl) (pe_tup (pa_cons (pe_op op_cat (pe_ix ix_tup (pv 1) pe_int (fun _ _ => rfl)) (pe_op op_rep (pe_lst (pa_cons (pv 4) pa_nil)) (pe_callTy (T := "int") call_int1 (by rfl) T.int (by decide +kernel) (pa_cons (pe_cmpR op_notIn_seq (pv 4) (pe_ix ix_tup (pv 1) pe_int (fun _ _ => rfl)) (by rfl)) pa_nil))))
        (pa_cons (pe_op op_cat (pe_ix ix_tup (pv 1) pe_int (fun _ _ => rfl)) (pe_op op_rep (pe_lst (pa_cons (pv 5) pa_nil)) (pe_callTy (T := "int") call_int1 (by rfl) T.int (by decide +kernel) (pa_cons (pe_cmpR op_notIn_seq (pv 5) (pe_ix ix_tup (pv 1) pe_int (fun _ _ => rfl)) (by rfl)) pa_nil)))) (pa_cons (pv 6) pa_nil)))))
    (pss_cons (ps_if (PW.pt (pw_or (pt_not (pt_val (Tb.pe_callG DI.ok DI.len gd (hr.mono (by decide)) (by rfl) DI.g DI.kp DI.b (pa_cons (XG.pe_methG (pv 2) M.S.cl hW GW spTWth_len gd hr bW (pa_cons (pv 4) (pa_cons (pv 5) (pa_cons (pv 3) pa_nil)))) (pa_cons (pv 7) pa_nil)))))
        (pw_or1 (pt_not (pt_val (Tb.pe_callG DI.ok DI.len gd (hr.mono (by decide)) (by rfl) DI.g DI.kp DI.b (pa_cons (pv 2) (pa_cons (pv 1) pa_nil)))))))) (pss_one (ps_ret pe_bl)) pss_nil)
    (pss_one (ps_ret (pe_cmpR (Own.cmp_own (op := .Eq) M.eq (hr.mono (by decide))) (XG.pe_methKG (pv 2) M.S.cl hW GW spTWth_len gd hr kW (pk_cons (pv 3) (pk_cons (pv 5) (pk_cons (pv 4) pk_nil)))) (XG.pe_methG (pv 2) M.S.cl hW GW spTWth_len gd hr bW (pa_cons (pv 4) (pa_cons (pv 5) (pa_cons (pv 3) pa_nil)))) (nomark _)))))))))), ?_⟩
  refine ⟨_, rfl, _, rfl, p, q, ns, s, g, v, ss, xs, r, rfl, hP, hl, s0, by omega, pa, ok, fun x r1 sa ga H1 tb al a1 a2 hP1 bt1 => ?_⟩
  have pa1 := pa.but hP bt1
  obtain ⟨g1, w1⟩ := al.good ok.w.good
  have T1 : TabW C ss xs (wk r) (.ref x) H1 := ⟨x, r1, rfl, tb, g1, w1⟩
  refine ⟨_, rfl, 10, 30, rfl, rfl, ⟨by decide, by decide, by decide⟩, _, 1, rfl, rfl, by show 4 ≤ sizeLine; decide, fun l nl => ?_⟩
  have lp : l ≠ p := (ne_of_none hP1.p nl).symm
  refine ⟨p, q, ns, sa, ga, l, _, rfl, Pen.new nl hP1, hl, by omega, by omega, upd_same, lp, by show 0 < 4; decide, by show 4 < 100000; decide, fun v2 sb gb H2 hv2 b1 b2 hP2 hB2 => ?_⟩
  obtain ⟨n, rfl, n0, n1⟩ : ∃ n : Int, v2 = .int n ∧ 0 ≤ n ∧ n < 10 ^ 30 := by
    simp only [List.mem_cons, List.not_mem_nil, or_false] at hv2
    rcases hv2 with rfl | rfl | rfl | rfl
    · exact ⟨_, rfl, by decide, by decide⟩
    · exact ⟨_, rfl, by decide, by decide⟩
    · exact ⟨_, rfl, by decide, by decide⟩
    · exact ⟨_, rfl, by decide, by decide⟩
  have e12 := Ex.new (o := .lst [V.int 0, .int 1, .int 7, .int (10 ^ (30 : Int).toNat - 1)]) nl
  have b02 : But p H H2 := fun c o hc ne => hB2 _ _ (e12 _ _ (bt1 _ _ hc ne)) ne
  have pa2 : PlainAt H2 v ss xs r := ((plainP ss xs r).mono _ _ _ e12 pa1 : PlainAt _ v ss xs r).but (Pen.new nl hP1) hB2
  have T2 := tab_but (Pen.new nl hP1) hB2 ((tabW C ss xs (wk r)).mono _ _ _ e12 T1)
  refine ⟨_, _, rfl, ?_⟩
  obtain ⟨t, a, b, d, rfl, h1, h2, h3, h4⟩ := pa2.ex
  have S6 := ok.s.few
  have X6 := ok.u.few
  -- source, use = ..
  refine ⟨_, rfl, g_someP (K := K) (ss := ss) (g_ixP (K := K) (i := 1) rfl h1 (atI_nat (xs := [V.ref a, .ref b, .ref d]) (j := 0) rfl) h2) S6 H2 (Ex.refl _) _ fun vl H3 e3 hvl => ?_⟩
  obtain ⟨l1, vs1, rfl, hl1, all1, ln1, ll1⟩ := hvl
  have hP3 : Pen H3 p q ns sb gb := ⟨e3 _ _ hP2.p, e3 _ _ hP2.q⟩
  by_cases lp1 : l1 = p
  · rw [lp1, hP3.p] at hl1
    exfalso
    have := HO.lst.inj (Option.some.inj hl1)
    obtain ⟨z, ez, _⟩ := all1 (V.ref q) (by rw [← this]; simp)
    cases ez
  refine ⟨p, q, ns, sb, gb, l1, vs1, rfl, hP3, hl, by omega, by omega, hl1, lp1, ln1, by omega, fun v4 sc gc H4 hv4 c1 c2 hP4 hB4 => ?_⟩
  obtain ⟨so, rfl, mso⟩ := all1 v4 hv4
  have pa3 : PlainAt H3 (.ref t) ss xs r := (plainP ss xs r).mono _ _ _ e3 pa2
  have pa4 := pa3.but hP3 hB4
  have T4 := tab_but hP3 hB4 ((tabW C ss xs (wk r)).mono _ _ _ e3 T2)
  have b04 : But p H H4 := fun c o hc ne => hB4 _ _ (e3 _ _ (b02 _ _ hc ne)) ne
  obtain ⟨t', a', b', d', et, h1', h2', h3', h4'⟩ := pa4.ex
  cases et
  refine ⟨_, rfl, g_someP (K := K) (ss := xs) (g_ixP (K := K) (i := 1) rfl h1' (atI_nat (xs := [V.ref a', .ref b', .ref d']) (j := 1) rfl) h3') X6 H4 (Ex.refl _) _ fun vl H5 e5 hvl => ?_⟩
  obtain ⟨l2, vs2, rfl, hl2, all2, ln2, ll2⟩ := hvl
  have hP5 : Pen H5 p q ns sc gc := ⟨e5 _ _ hP4.p, e5 _ _ hP4.q⟩
  by_cases lp2 : l2 = p
  · rw [lp2, hP5.p] at hl2
    exfalso
    have := HO.lst.inj (Option.some.inj hl2)
    obtain ⟨z, ez, _⟩ := all2 (V.ref q) (by rw [← this]; simp)
    cases ez
  refine ⟨p, q, ns, sc, gc, l2, vs2, rfl, hP5, hl, by omega, by omega, hl2, lp2, ln2, by omega, fun v6 sd gd' H6 hv6 d1 d2 hP6 hB6 => ?_⟩
  obtain ⟨us, rfl, mus⟩ := all2 v6 hv6
  have pa5 : PlainAt H5 (.ref t) ss xs r := (plainP ss xs r).mono _ _ _ e5 pa4
  have pa6 := pa5.but hP5 hB6
  have T6 := tab_but hP5 hB6 ((tabW C ss xs (wk r)).mono _ _ _ e5 T4)
  have b06 : But p H H6 := fun c o hc ne => hB6 _ _ (e5 _ _ (b04 _ _ hc ne)) ne
  refine ⟨by show 2 ≤ sizeLine; decide, fun tp ntp => ⟨tp, [.str so, .str us], rfl, SqT.of upd_same, rfl, _, _, rfl, _, _, rfl, rfl, ?_⟩⟩
  have e7 := Ex.new (o := .tup [.str so, .str us]) ntp
  have pa7 : PlainAt (upd H6 tp (.tup [.str so, .str us])) (.ref t) ss xs r := (plainP ss xs r).mono _ _ _ e7 pa6
  have T7 := (tabW C ss xs (wk r)).mono _ _ _ e7 T6
  have hP7 : Pen (upd H6 tp (.tup [.str so, .str us])) p q ns sd gd' := ⟨e7 _ _ hP6.p, e7 _ _ hP6.q⟩
  have b07 : But p H (upd H6 tp (.tup [.str so, .str us])) := fun c o hc ne => e7 _ _ (b06 _ _ hc ne)
  generalize upd H6 tp (.tup [.str so, .str us]) = H7 at pa7 T7 hP7 b07 ⊢
  have nso : NameV (.str so) := mso.elim (ok.s.nm so) fun e => by rw [e]; exact name_new
  have nus : NameV (.str us) := mus.elim (ok.u.nm us) fun e => by rw [e]; exact name_new
  obtain ⟨t8, a8, b8, d8, et, k1, k2, k3, k4⟩ := pa7.ex
  cases et
  have td : t ≠ d8 := ne_of k1 k4 fun z => nomatch z
  dsimp only [gName]
  have gS : ∀ {σ : L2.St} {H : Hp}, Ex H7 H → σ[1]? = some (some (.ref t)) → Gives (tOp (rIxT K) (tVar 1) (tC (.int 0))) σ H (lstV (ss.map V.str)) := fun e h => g_ixP (K := K) h (e _ _ k1) (atI_nat (xs := [V.ref a8, .ref b8, .ref d8]) (j := 0) rfl) (e _ _ k2)
  have gX : ∀ {σ : L2.St} {H : Hp}, Ex H7 H → σ[1]? = some (some (.ref t)) → Gives (tOp (rIxT K) (tVar 1) (tC (.int 1))) σ H (lstV (xs.map V.str)) := fun e h => g_ixP (K := K) h (e _ _ k1) (atI_nat (xs := [V.ref a8, .ref b8, .ref d8]) (j := 1) rfl) (e _ _ k3)
  -- if source not in plain[0] and len(plain[0]) > 5 or ..
  refine Tb.st_ifB (t_orB (t_andB (t_test (g_ninL (K := K) (m := 4) rfl (gS (Ex.refl _) rfl))) (t_len5 (K := K) (gS (Ex.refl _) rfl) fun p H1 Q h q => ⟨p, _, rfl, .inl h, q⟩)) (t_andB (t_test (g_ninL (K := K) (m := 5) rfl (gX (Ex.refl _) rfl))) (t_len5 (K := K) (gX (Ex.refl _) rfl) fun p H1 Q h q => ⟨p, _, rfl, .inl h, q⟩))) (fun _ H8 e8 => ?_) fun guard H8 e8 => ?_
  · exact k sd gd' H8 (by omega) (by omega) ⟨e8 _ _ hP7.p, e8 _ _ hP7.q⟩ fun c o hc ne => e8 _ _ (b07 _ _ hc ne)
  rw [Bool.or_eq_false_iff] at guard
  obtain ⟨gu1, gu2⟩ := guard
  have oS : NamesOk (addN ss so) := addN_ok ok.s nso fun ⟨z1, z2⟩ => by
    rw [decide_eq_false z1, decide_eq_true z2] at gu1
    cases gu1
  have oU : NamesOk (addN xs us) := addN_ok ok.u nus fun ⟨z1, z2⟩ => by
    rw [decide_eq_false z1, decide_eq_true z2] at gu2
    cases gu2
  have few := ok.w.good.len36 ok.s.few ok.u.few
  have key : ∀ z ∈ r, ∃ a ∈ ss, ∃ x ∈ xs, z.1 = key2 a x := ok.w.key
  have okso := ok_str nso
  have okus := ok_str nus
  -- found = dict([..])
  refine' EvP.st_set (P := Tb.dictT H8 (r.filter fun z => !decide (z.1 = key2 so us))) ?s1 ?k1
  case s1 =>
    have z := comp_pairsT (K := K) (σ := [some (.ref p), some (.ref t), some (.ref x), some (.int n), some (.str so), some (.str us), none, none, none]) (H := H8) (vs := [8]) (i := 1) (g := gName 8) (tt := tTest (tOp (rNeD K) (tVar 8) (tTup (tCons (tVar 4) (tCons (tVar 5) tNil))))) (te := tTup (tCons (tVar 8) (tCons (tDGet (tOp (rIxT K) (tVar 1) (tC (.int 2))) (tVar 8)) tNil)))
      (fun _ q => [some (.ref p), some (.ref t), some (.ref x), some (.int n), some (.str so), some (.str us), none, none, some (.ref q)]) (fun k => !decide (k = key2 so us)) (fun z => (z.1, z.2)) rfl (e8 _ _ k1) (e8 _ _ k4) (by omega) (fun _ _ => rfl) (fun z mz q H1 R _ h => h) (fun z mz q H1 bd hq Q k => ?_) (fun z mz kz q H1 bd hq Q k => ?_)
    · have e : ((r.filter fun z => !decide (z.1 = key2 so us)).map fun z => (z.1, z.2)) = r.filter fun z => !decide (z.1 = key2 so us) := List.map_id _
      rw [e] at z
      exact g_dictT z (nod_filter ok.w.nod)
    · obtain ⟨a', ha, x', hx, e⟩ := key z mz
      rw [e] at hq k
      refine ⟨_, rfl, _, rfl, _, rfl, by show 2 ≤ sizeLine; decide, fun c nc => ?_⟩
      have en := Ex.new (o := .tup [V.str so, .str us]) nc
      refine ⟨.tuple ([a', x'].map PyData.str), .tuple ([so, us].map PyData.str), .tup (SqT.of (en _ _ hq)) (Tb.dp_strs [a', x']), .tup (SqT.of upd_same) (Tb.dp_strs [so, us]), shaped_pair (ok_str (ok.s.nm a' ha)) (ok_str (ok.u.nm x' hx)), shaped_pair okso okus, _, rfl, ?_⟩
      have ee : PyData.eqv (.tuple ([a', x'].map PyData.str)) (.tuple ([so, us].map PyData.str)) = decide (key2 a' x' = key2 so us) := by
        refine (Tb.eqv_strs [a', x'] [so, us]).trans ?_
        by_cases c : key2 a' x' = key2 so us
        · obtain ⟨c1, c2⟩ := Tb.key2_inj c
          rw [decide_eq_true c, c1, c2]
          exact decide_eq_true rfl
        · rw [decide_eq_false c]
          refine decide_eq_false fun h => c ?_
          simp only [List.cons.injEq, and_true] at h
          rw [h.1, h.2]
      rw [ee]
      exact k _ en
    · refine ⟨_, rfl, get_pair (K := K) (i := 1) (l := 8) (Q := fun v H2 => _) ok.w.nod mz rfl rfl (e8 _ _ k1) td bd hq ?_⟩
      refine ⟨by show 2 ≤ sizeLine; decide, fun c nc => k _ _ (Ex.new nc) ⟨c, q, rfl, upd_same, Ex.new nc _ _ hq⟩⟩
  rintro v9 H9 e9 ⟨dd, rfl, hdd, ndd⟩
  have e89 := e8.trans e9
  have hP9 : Pen H9 p q ns sd gd' := ⟨e89 _ _ hP7.p, e89 _ _ hP7.q⟩
  have fresh : ∀ c o, H8 c = some o → c ≠ dd := fun c o hc => ne_of_none hc ndd
  have fresh7 : ∀ c o, H7 c = some o → c ≠ dd := fun c o hc => fresh c o (e8 _ _ hc)
  have n' := putT_nod (k := key2 so us) (n := n) ok.w.nod
  -- what follows, with found filled
  have rest : ∀ (H10 : Hp), (∀ c o, H7 c = some o → H10 c = some o) → H10 dd = some (.dT (tents (putT r (key2 so us) n))) →
      tSeq (tAsg (tTup (tCons (tOp rCat (tOp (rIxT K) (tVar 1) (tC (.int 0))) (tOp rRep (tLst (tCons (tVar 4) tNil)) (tCB rInt1 (tCons (tOp (rIn K true) (tVar 4) (tOp (rIxT K) (tVar 1) (tC (.int 0)))) tNil)))) (tCons (tOp rCat (tOp (rIxT K) (tVar 1) (tC (.int 1))) (tOp rRep (tLst (tCons (tVar 5) tNil)) (tCB rInt1 (tCons (tOp (rIn K true) (tVar 5) (tOp (rIxT K) (tVar 1) (tC (.int 1)))) tNil)))) (tCons (tVar 6) tNil)))) (gName 7))
        (tSeq (tIfS (tOr (tNot (tB (tCall (spIs5 C) [] E0 (tCons (XG.tMeG C "with_worth" (spTWth C) (tVar 2) (tCons (tVar 4) (tCons (tVar 5) (tCons (tVar 3) tNil)))) (tCons (tVar 7) tNil))))) (tNot (tB (tCall (spIs5 C) [] E0 (tCons (tVar 2) (tCons (tVar 1) tNil)))))) (tRet (tC (.bl false))) tNext)
          (tRet (tOp (Own.rCmpOwn K C (spTEq K C)) (XG.tMeKG C "with_worth" (spTWth C) kwW (tVar 2) (tCons (tVar 3) (tCons (tVar 5) (tCons (tVar 4) tNil)))) (XG.tMeG C "with_worth" (spTWth C) (tVar 2) (tCons (tVar 4) (tCons (tVar 5) (tCons (tVar 3) tNil)))))))
        { nx := fun _ H' => Q .non H', rt := Q } [some (.ref p), some (.ref t), some (.ref x), some (.int n), some (.str so), some (.str us), some (.ref dd), none, none] H10 := fun H10 kp hdd' => by
    have kpE : Ex H7 H10 := kp
    have T10 := (tabW C ss xs (wk r)).mono _ _ _ kpE T7
    have pa10 : PlainAt H10 (.ref t) ss xs r := (plainP ss xs r).mono _ _ _ kpE pa7
    have pOk := putT_ok (ss := ss) (xs := xs) (so := so) (us := us) (n := n) ok.w n1
    refine EvP.st_set (P := plainP (addN ss so) (addN xs us) (putT r (key2 so us) n)) ?_ fun v11 H11 e11 hp11 => ?_
    · refine Fk.Gives.imp (EvP.tuple (EvP.cons (g_addN (K := K) rfl (gS kpE rfl) S6) (EvP.cons (g_addN (K := K) rfl (gX kpE rfl) X6) (EvP.cons (EvP.varP (P := ⟨fun v H => ∃ a, v = .ref a ∧ H a = some (.dT (tents (putT r (key2 so us) n))), fun _ _ _ e ⟨a, h1, h2⟩ => ⟨a, h1, e _ _ h2⟩⟩) rfl ⟨dd, rfl, hdd'⟩) EvP.nil))) (by show 3 ≤ 1000; decide)) fun v H ⟨p', vs, ev, hp, hs⟩ => ?_
      cases hs with
      | cons c1 hs => cases hs with
        | cons c2 hs => cases hs with
          | cons c3 hs =>
            cases hs
            obtain ⟨p1, rfl, q1⟩ := c1
            obtain ⟨p2, rfl, q2⟩ := c2
            obtain ⟨p3, rfl, q3⟩ := c3
            exact ⟨p', p1, p2, p3, ev, hp, q1, q2, q3⟩
    have T11 := (tabW C ss xs (wk r)).mono _ _ _ e11 T10
    have pa11 : PlainAt H11 (.ref t) ss xs r := (plainP ss xs r).mono _ _ _ e11 pa10
    have lt : ∀ k, wk r k < 10 ^ 70 := fun k => Int.lt_trans (wk_nn ok.w k).2 (by decide)
    have lt2 : ∀ k, wk (putT r (key2 so us) n) k < 10 ^ 70 := fun k => Int.lt_trans (wk_nn pOk k).2 (by decide)
    refine Cm.st_ifF (t_or (t_not (b := true) (t_val (g_is5 oS oU (g_wth (i := 2) (j := 4) (l := 5) (m := 3) rfl rfl rfl rfl T11 ok.s ok.u oS oU n0) (EvP.varP rfl hp11) pOk.good (putT_wk ok.w.nod n0) lt2))) (t_not (b := true) (t_val (g_is5 ok.s ok.u (EvP.varP rfl T11) (EvP.varP rfl pa11) ok.w.good (fun _ => rfl) lt)))) fun H12 e12 => ?_
    have T12 := (tabW C ss xs (wk r)).mono _ _ _ e12 T11
    refine EvP.st_ret (P := is (.bl true)) (g_eqT oS oU (g_wthK (i := 2) (j := 4) (l := 5) (m := 3) rfl rfl rfl rfl T12 ok.s ok.u oS oU n0) (g_wth (i := 2) (j := 4) (l := 5) (m := 3) rfl rfl rfl rfl T12 ok.s ok.u oS oU n0) fun _ => rfl) fun v H13 e13 ev => ?_
    rw [show v = V.bl true from ev]
    have ee := (kpE.trans e11).trans (e12.trans e13)
    exact k sd gd' H13 (by omega) (by omega) ⟨ee _ _ hP7.p, ee _ _ hP7.q⟩ fun c o hc ne => ee _ _ (b07 _ _ hc ne)
  -- if worth_so > 0
  refine ⟨_, rfl, n, 0, rfl, rfl, _, rfl, ?_⟩
  by_cases c0 : 0 < n
  · rw [decide_eq_true c0]
    refine ⟨_, rfl, _, rfl, _, rfl, _, rfl, by show 2 ≤ sizeLine; decide, fun c nc => ?_⟩
    have en := Ex.new (o := .tup [V.str so, .str us]) nc
    refine ⟨dd, _, rfl, DPut.t (k := key2 so us) (en _ _ hdd) upd_same ?_, ?_⟩
    · unfold tents
      rw [List.length_map, sizeLine_eq]
      have := List.length_filter_le (fun z : List Key × Int => !decide (z.1 = key2 so us)) r
      omega
    · have ep : (r.filter fun z => !decide (z.1 = key2 so us)) ++ [(key2 so us, n)] = putT r (key2 so us) n := by
        unfold putT
        rw [if_pos c0]
      rw [Tb.tents_put (by rw [ep]; exact n'), ep]
      exact rest _ (fun c' o hc => by rw [upd_ne (fresh7 c' o hc)]; exact en _ _ (e89 _ _ hc)) upd_same
  · rw [decide_eq_false c0]
    refine iteF ?_
    have ep : (r.filter fun z => !decide (z.1 = key2 so us)) = putT r (key2 so us) n := by
      unfold putT
      rw [if_neg c0, List.append_nil]
    rw [ep] at hdd
    exact rest H9 e89 hdd
end
end K06

set_option Elab.async false
set_option linter.all false
set_option maxRecDepth 100000
set_option maxHeartbeats 4000000
/-! Words for _law_flat_right. -/
namespace K06
open PySem PySem.Spec PyProof.Rows L2 Cm
open DtE (TRow tents lookT valV_tents)
open Tb (key2 PairK wk TblAt TblC Tab TabAt rowsO tmeth firsts spTItem spTEq)
open Fk (NameV nameB srt srt_perm ents)
open EvP (Ex All2 is Gives GivesA)
/-- a source's uses in scope -/
def rowX (r : TRow) (xs : List Str) (a : Str) : List Str := xs.filter fun x => (lookT r (key2 a x)).isSome
def fndR (r : TRow) (xs : List Str) (w : Int) (ss : List Str) : TRow := ss.flatMap fun a => (rowX r xs a).map fun u => (key2 a u, w)
section
variable {K : PySem.W.Frag} {σ : L2.St} {H : Hp} {vs : List Nat} {i : Nat} {tt : TT} {te ta tb : TE} {g : TG}
theorem comp_pairsV {d : Addr} {r : TRow} (st : List Key → Addr → L2.St) (keep : List Key → Bool) (ψ : List Key × Int → List Key × Int) (hi : σ[i]? = some (some (.ref d))) (hd : H d = some (.dT (tents r))) (hz : r.length ≤ 1000)
    (hw : ∀ k q, wipe (st k q) vs = wipe σ vs) (hg : ∀ z ∈ r, ∀ q H1 (R : L2.St → Hp → Prop), H1 q = some (.tup (z.1.map kV)) → R (st z.1 q) H1 → g (.ref q) (wipe σ vs) H1 R)
    (hk : ∀ z ∈ r, ∀ q H1, Bd H d r H1 → H1 q = some (.tup (z.1.map kV)) → ∀ Q : Bool → Hp → Prop, (∀ H2, Ex H1 H2 → Q (keep z.1) H2) → tt (st z.1 q) H1 Q)
    (he : ∀ z ∈ r, keep z.1 = true → ∀ q H1, Bd H d r H1 → H1 q = some (.tup (z.1.map kV)) → ∀ Q : VK, (∀ v H2, Ex H1 H2 → pairR (ψ z) v H2 → Q v H2) → te (st z.1 q) H1 Q) :
    Gives (tLockE (tLc (iKeys (tVar i)) g tt te vs)) σ H (kpL ((r.filter fun z => keep z.1).map ψ)) := fun H1 e1 Q q => by
  have h1 := e1 _ _ hd
  refine ⟨d, _, h1, True.intro, fun od => ⟨_, hi, d, od, rfl, .inr ⟨tents r, upd_same, fun D hD => ?_⟩⟩⟩
  have nd : d ≠ D := fun z => by
    rw [← z, upd_same] at hD
    cases hD
  have nD : H1 D = none := by rw [upd_ne nd.symm] at hD; exact hD
  have kp : ∀ c o, H1 c = some o → c ≠ d → upd (upd H1 d (.frz od (.dT (tents r)))) D (.lst []) c = some o := fun c o hc ne => by
    rw [upd_ne (ne_of_none hc nD), upd_ne ne]
    exact hc
  refine lc_it walk_keysT (fun j H' => ∃ ps kbs, H' D = some (.lst (ps.map V.ref)) ∧ H' d = some (.frz od (.dT (tents r))) ∧ (∀ c o, H1 c = some o → c ≠ d → H' c = some o) ∧ KPH H' ps kbs ∧ kbs.map (fun x => (x.1, x.2.2)) = tents (((r.take j).filter fun z => keep z.1).map ψ) ∧ ps.length = kbs.length) ⟨[], [], upd_same, by rw [upd_ne nd]; exact upd_same, kp, .nil, by rw [List.take_zero]; rfl, rfl⟩ (fun j H' _ ⟨_, _, _, e, _⟩ => e) (fun j x H' H'' hj ⟨ps, kbs, a1, a2, a3, a4, a5, a6⟩ y => ?_) (fun H' ⟨ps, kbs, a1, a2, a3, a4, a5, a6⟩ => ?_)
  · obtain ⟨rfl, kk, vv, qq, hkk, rfl, hq⟩ := y
    unfold tents at hkk
    rw [List.getElem?_map] at hkk
    obtain ⟨z, hz', ez⟩ := Option.map_eq_some_iff.mp hkk
    obtain ⟨rfl, rfl⟩ := Prod.mk.inj ez
    have mz := List.mem_of_getElem? hz'
    have tk : r.take (j + 1) = r.take j ++ [z] := by
      rw [List.take_add_one, hz']
      rfl
    have bd : Bd H d r H'' := ⟨fun c o hc ne => a3 _ _ (e1 _ _ hc) ne, od, a2⟩
    refine hg z mz qq H'' _ hq ⟨hw _ _, hk z mz qq H'' bd hq _ fun H2 e2 => ?_⟩
    cases kx : keep z.1 with
    | false =>
      refine ⟨ps, kbs, e2 _ _ a1, e2 _ _ a2, fun c o hc ne => e2 _ _ (a3 c o hc ne), a4.mono fun b ys h => e2 _ _ h, ?_, a6⟩
      rw [tk, List.filter_append, List.filter_cons, kx]
      simpa using a5
    | true =>
      refine he z mz kx qq H2 (bd.ex e2) (e2 _ _ hq) _ fun v H3 e3 hv => ?_
      have e23 := e2.trans e3
      obtain ⟨p, bb, rfl, hp, hb⟩ := hv
      have a1' := e23 _ _ a1
      have tup : ∀ c ys, H3 c = some (.tup ys) → upd H3 D (.lst (ps.map V.ref ++ [V.ref p])) c = some (.tup ys) := fun c ys hc => by
        rw [upd_ne (ne_of hc a1' fun z => nomatch z)]
        exact hc
      have len : ps.length ≤ 1000 := by
        rw [a6]
        have := congrArg List.length a5
        rw [List.length_map] at this
        unfold tents at this
        rw [List.length_map, List.length_map] at this
        have h2 := List.length_filter_le (fun z : List Key × Int => keep z.1) (r.take j)
        rw [List.length_take] at h2
        omega
      refine ⟨_, a1', by rw [List.length_map, sizeLine_eq]; omega, ps ++ [p], kbs ++ [((ψ z).1, bb, .int (ψ z).2)], by rw [upd_same, List.map_append]; rfl, by rw [upd_ne nd]; exact e23 _ _ a2, fun c o hc ne => ?_, ((a4.mono fun b ys h => e23 _ _ h).snoc hp hb).mono tup, ?_, by rw [List.length_append, List.length_append, a6]; rfl⟩
      · rw [upd_ne (ne_of_none hc nD)]
        exact e23 _ _ (a3 _ _ hc ne)
      · rw [tk, List.filter_append, List.filter_cons, kx, List.map_append, List.map_append, a5]
        unfold tents
        rw [List.map_append]
        rfl
  · have e : (tents r).length = r.length := List.length_map _
    rw [e, List.take_length] at a5
    have Dd := nd.symm
    refine ⟨a2, q _ _ (fun c o hc => ?_) ⟨D, ps, kbs, rfl, by rw [upd_ne Dd]; exact a1, a4.mono fun b ys h => ?_, a5⟩⟩
    · by_cases cd : c = d
      · rw [cd, upd_same, ← h1, ← cd]
        exact hc
      · rw [upd_ne cd]
        exact a3 _ _ hc cd
    · rw [upd_ne (ne_of h a2 fun z => nomatch z)]
      exact h
/-- [use for use in plain[1] if (source, use) in plain[2]] -/
theorem g_rowX {m l : Nat} {t a b d : Addr} {r : TRow} {xs : List Str} {so : Str} (hi : σ[i]? = some (some (.ref t))) (ht : H t = some (.tup [.ref a, .ref b, .ref d])) (hb : H b = some (.lst (xs.map V.str))) (hd : H d = some (.dT (tents r))) (z1 : xs.length ≤ 6) (wp : ∀ x, wipe ((wipe σ vs).set m (some x)) vs = wipe σ vs)
    (wi : ∀ x, ((wipe σ vs).set m (some x))[i]? = some (some (.ref t))) (wl : ∀ x, ((wipe σ vs).set m (some x))[l]? = some (some (.str so))) (wm : ∀ x, ((wipe σ vs).set m (some x))[m]? = some (some x)) :
    Gives (tLc (iList K (tOp (rIxT K) (tVar i) (tC (.int 1)))) (gName m) (tB (tDIn (tTup (tCons (tVar l) (tCons (tVar m) tNil))) (tOp (rIxT K) (tVar i) (tC (.int 2))))) (tVar m) vs) σ H (lstV ((rowX r xs so).map V.str)) := by
  have z := compT (σ := σ) (H := H) (te := tVar m) (tt := tB (tDIn (tTup (tCons (tVar l) (tCons (tVar m) tNil))) (tOp (rIxT K) (tVar i) (tC (.int 2))))) (i := m) (vs := vs) (fun v => match v with | .str u => (lookT r (key2 so u)).isSome | _ => false) (fun v => is v) (walks_list (K := K) (g_ixP (K := K) (ss := xs) hi ht (atI_nat (xs := [V.ref a, .ref b, .ref d]) (j := 1) rfl) hb)) (by rw [List.length_map]; omega) wp
    (fun v hv => by
      obtain ⟨u, hu, rfl⟩ := List.mem_map.mp hv
      refine t_val fun H1 e Q q => ⟨_, wl _, _, wm _, by show 2 ≤ sizeLine; decide, fun p np => ⟨_, wi _, t, _, 2, .ref d, rfl, rfl, SqT.of (Ex.new np _ _ (e _ _ ht)), atI_nat (xs := [V.ref a, .ref b, .ref d]) (j := 2) rfl, d, valV (tents r) (key2 so u), rfl, DGet.t (k := key2 so u) (Ex.new np _ _ (e _ _ hd)) upd_same, q _ _ (Ex.new np) ?_⟩⟩
      rw [valV_tents, Option.isSome_map]
      rfl) (fun v hv _ => EvP.var (wm v)) (fun v _ => stays_is v)
  refine Fk.Gives.imp z fun v H1 ⟨p, ws, ev, hp, _, hs⟩ => ⟨p, ev, ?_⟩
  rw [hp, all2_is hs, List.filter_map]
  rfl
def pairPR (z : List Key × Int) : EvP.PR := ⟨pairR z, fun v H H' e h => by
  obtain ⟨p, b, h1, h2, h3⟩ := h
  exact ⟨p, b, h1, e _ _ h2, e _ _ h3⟩⟩
theorem stays_pair (z : List Key × Int) : Stays (pairPR z) := fun v H D ys zs ⟨p, b, h1, h2, h3⟩ hD => ⟨p, b, h1, by rw [upd_ne (ne_of h2 hD fun z => nomatch z)]; exact h2, by rw [upd_ne (ne_of h3 hD fun z => nomatch z)]; exact h3⟩
theorem kph_of {H : Hp} : ∀ {L : TRow} {vs : List V}, All2 H (L.map pairPR) vs → ∃ (ps : List Addr) (kbs : List (List Key × Addr × V)), vs = ps.map V.ref ∧ KPH H ps kbs ∧ kbs.map (fun x => (x.1, x.2.2)) = tents L
  | [], _, .nil => ⟨[], [], rfl, .nil, rfl⟩
  | z :: L, _, .cons h t => by
    obtain ⟨ps, kbs, e1, h2, h3⟩ := kph_of t
    obtain ⟨p, b, rfl, h4, h5⟩ := h
    refine ⟨p :: ps, (z.1, b, .int z.2) :: kbs, by rw [e1]; rfl, .cons ⟨h4, h5⟩ h2, ?_⟩
    rw [List.map_cons, h3]
    rfl
theorem KPH.append {H : Hp} {ps qs : List Addr} {kbs lbs : List (List Key × Addr × V)} (h : KPH H ps kbs) (k : KPH H qs lbs) : KPH H (ps ++ qs) (kbs ++ lbs) := by
  induction h with
  | nil => exact k
  | cons a t ih => exact .cons a ih
/-- [((source, use), worth) for use in row] -/
theorem g_newP {m l w j : Nat} {row : List Str} {so : Str} {n : Int} {lr : Addr} (hj : σ[j]? = some (some (.ref lr))) (hr : H lr = some (.lst (row.map V.str))) (z1 : row.length ≤ 12) (wp : ∀ x, wipe ((wipe σ vs).set m (some x)) vs = wipe σ vs)
    (wl : ∀ x, ((wipe σ vs).set m (some x))[l]? = some (some (.str so))) (ww : ∀ x, ((wipe σ vs).set m (some x))[w]? = some (some (.int n))) (wm : ∀ x, ((wipe σ vs).set m (some x))[m]? = some (some x)) :
    Gives (tLc (iList K (tVar j)) (gName m) tYes (tTup (tCons (tTup (tCons (tVar l) (tCons (tVar m) tNil))) (tCons (tVar w) tNil))) vs) σ H (kpL (row.map fun u => (key2 so u, n))) := by
  have z := comp (σ := σ) (H := H) (te := tTup (tCons (tTup (tCons (tVar l) (tCons (tVar m) tNil))) (tCons (tVar w) tNil))) (tt := tYes) (i := m) (vs := vs) (fun _ => true) (fun v => pairPR (match v with | .str u => (key2 so u, n) | _ => ([], 0))) (walks_list (K := K) (xs := row.map V.str) (EvP.varP hj ⟨lr, rfl, hr⟩)) (by rw [List.length_map]; omega) wp (fun _ _ H2 _ Q h => h)
    (fun v hv _ => by
      obtain ⟨u, hu, rfl⟩ := List.mem_map.mp hv
      refine fun H1 e Q q => ⟨_, wl _, _, wm _, by show 2 ≤ sizeLine; decide, fun p np => ⟨_, ww _, by show 2 ≤ sizeLine; decide, fun p2 np2 => q _ _ ((Ex.new np).trans (Ex.new np2)) ⟨p2, p, rfl, upd_same, Ex.new np2 _ _ upd_same⟩⟩⟩) (fun v _ => stays_pair _)
  refine Fk.Gives.imp z fun v H1 ⟨p, ws, ev, hp, _, hs⟩ => ?_
  rw [List.filter_eq_self.mpr (fun _ _ => rfl), List.map_map] at hs
  have e : (row.map ((fun v => pairPR (match v with | .str u => (key2 so u, n) | _ => ([], 0))) ∘ V.str)) = (row.map fun u => (key2 so u, n)).map pairPR := by
    rw [List.map_map]
    rfl
  rw [e] at hs
  obtain ⟨ps, kbs, e1, h2, h3⟩ := kph_of hs
  exact ⟨p, ps, kbs, ev, by rw [hp, e1], h2, h3⟩
theorem g_catK {r1 r2 : TRow} (h : Gives ta σ H (kpL r1)) (k : Gives tb σ H (kpL r2)) (l : r1.length + r2.length ≤ 1000) : Gives (tOp rCat ta tb) σ H (kpL (r1 ++ r2)) := by
  refine g_op (P := kpL r1) (R := kpL r2) h k fun x y H1 _ ⟨a, ps, kbs, ea, ha, hk, hl⟩ ⟨b, qs, lbs, eb, hb, hm, hn⟩ Q q => ?_
  subst ea
  subst eb
  have e1 : kbs.length = r1.length := by
    have := congrArg List.length hl
    unfold tents at this
    rwa [List.length_map, List.length_map] at this
  have e2 : lbs.length = r2.length := by
    have := congrArg List.length hn
    unfold tents at this
    rwa [List.length_map, List.length_map] at this
  have e3 : ps.length = kbs.length := Paired.length hk
  have e4 : qs.length = lbs.length := Paired.length hm
  refine ⟨a, b, _, _, rfl, rfl, ha, hb, by rw [List.length_map, List.length_map, sizeLine_eq]; omega, fun p np => q _ _ (Ex.new np) ⟨p, ps ++ qs, kbs ++ lbs, rfl, by rw [upd_same, List.map_append], (hk.append hm).mono fun b ys h => Ex.new np _ _ h, ?_⟩⟩
  rw [List.map_append, hl, hn]
  unfold tents
  rw [List.map_append]
/-- uses + [use for use in row if use not in uses] -/
theorem g_usesN {m j l : Nat} {row B : List Str} {lr lb : Addr} (hj : σ[j]? = some (some (.ref lr))) (hr : H lr = some (.lst (row.map V.str))) (hl : σ[l]? = some (some (.ref lb))) (hb : H lb = some (.lst (B.map V.str))) (z1 : row.length ≤ 12) (z2 : B.length ≤ 12) (wp : ∀ x, wipe ((wipe σ vs).set m (some x)) vs = wipe σ vs)
    (wl : ∀ x, ((wipe σ vs).set m (some x))[l]? = some (some (.ref lb))) (wm : ∀ x, ((wipe σ vs).set m (some x))[m]? = some (some x)) :
    Gives (tOp rCat (tVar l) (tLc (iList K (tVar j)) (gName m) (tTest (tOp (rIn K true) (tVar m) (tVar l))) (tVar m) vs)) σ H (lstV ((B ++ offN row B).map V.str)) := by
  have z := comp_is (te := tVar m) (tt := tTest (tOp (rIn K true) (tVar m) (tVar l))) (i := m) (vs := vs) (σ := σ) (H := H) (fun v => match v with | .str n => !decide (n ∈ B) | _ => false) id (walks_list (K := K) (xs := row.map V.str) (EvP.varP hj ⟨lr, rfl, hr⟩)) (by rw [List.length_map]; omega) wp
    (fun v hv H2 e2 Q h => by
      obtain ⟨n, hn, rfl⟩ := List.mem_map.mp hv
      refine ⟨_, wm _, _, wl _, lb, _, rfl, .inl (SqL.of (e2 _ _ hb)), rfl, flat_strs B, _, rfl, ?_⟩
      rw [if_pos rfl, inV_str]
      exact h) (fun v hv _ => EvP.var (wm v))
  rw [List.map_id, List.filter_map] at z
  refine g_op (P := lstV (B.map V.str)) (R := lstV ((offN row B).map V.str)) (EvP.varP hl ⟨lb, rfl, hb⟩) z fun x y H1 e ⟨c1, ex, h1⟩ ⟨c2, ey, h2⟩ Q k => ?_
  subst ex
  subst ey
  have l2 := List.length_filter_le (fun n => !decide (n ∈ B)) row
  refine ⟨c1, c2, _, _, rfl, rfl, h1, h2, ?_, fun D hD => k _ _ (Ex.new hD) ⟨D, rfl, ?_⟩⟩
  · rw [List.length_map, List.length_map, sizeLine_eq]
    unfold offN
    omega
  · rw [upd_same, List.map_append]
/-- the three forms of a row -/
theorem go_opts {j : Nat} {row : List Str} {lr : Addr} {Q : VK} (hj : σ[j]? = some (some (.ref lr))) (hr : H lr = some (.lst (row.map V.str))) (z1 : row.length ≤ 6)
    (q : ∀ (l : Addr) (vs : List V) H', Ex H H' → H' l = some (.lst vs) → H l = none → vs.length = 3 → (∀ v ∈ vs, ∃ (c : Addr) (ns : List Str), v = .ref c ∧ (H' c = some (.lst (ns.map V.str)) ∨ H' c = some (.tup (ns.map V.str))) ∧ (∀ x, x ∈ ns ↔ x ∈ row) ∧ ns.length ≤ 12) → Q (.ref l) H') :
    tLst (tCons (tVar j) (tCons (tCB (fun xs H Q => ∃ p ys, xs = [V.ref p] ∧ ((SqL K H p ys ∧ ∀ l, H l = none → Q (.ref l) (upd H l (.tup ys))) ∨ (SqT K H p ys ∧ Q (.ref p) H))) (tCons (tVar j) tNil)) (tCons (tOp rCat (tVar j) (tSl (rSlL K) (tVar j) tNoPart (tPart (tC (.int 1))))) tNil))) σ H Q := by
  refine ⟨_, hj, _, hj, lr, _, rfl, .inl ⟨SqL.of hr, fun c1 n1 => ?_⟩⟩
  have e1 := Ex.new (o := .tup (row.map V.str)) n1
  have h1 : upd H c1 (.tup (row.map V.str)) c1 = some (.tup (row.map V.str)) := upd_same
  generalize upd H c1 (.tup (row.map V.str)) = H1 at e1 h1 ⊢
  refine ⟨_, hj, _, hj, 1, rfl, lr, _, rfl, SqL.of (e1 _ _ hr), fun c2 n2 => ?_⟩
  have e2 := Ex.new (o := .lst (cutV (row.map V.str) none (some 1))) n2
  have h2 : upd H1 c2 (.lst (cutV (row.map V.str) none (some 1))) c2 = some (.lst (cutV (row.map V.str) none (some 1))) := upd_same
  generalize upd H1 c2 (.lst (cutV (row.map V.str) none (some 1))) = H2 at e2 h2 ⊢
  have ln := cutV_length (row.map V.str) none (some 1)
  have sub : ∀ z ∈ cutV (row.map V.str) none (some 1), z ∈ row.map V.str := fun z hz => List.mem_of_mem_drop (List.mem_of_mem_take hz)
  obtain ⟨ms, em⟩ : ∃ ms : List Str, cutV (row.map V.str) none (some 1) = ms.map V.str := by
    have : ∀ (L : List V), (∀ z ∈ L, z ∈ row.map V.str) → ∃ ms : List Str, L = ms.map V.str := fun L => by
      induction L with
      | nil => intro _; exact ⟨[], rfl⟩
      | cons z L ih =>
        intro h
        obtain ⟨ms, e⟩ := ih fun y hy => h y (.tail _ hy)
        obtain ⟨n, _, en⟩ := List.mem_map.mp (h z (.head _))
        exact ⟨n :: ms, by rw [e, ← en]; rfl⟩
    exact this _ sub
  rw [em] at h2 ln sub
  have subm : ∀ x ∈ ms, x ∈ row := fun x hx => by
    obtain ⟨n, hn, e⟩ := List.mem_map.mp (sub _ (List.mem_map.mpr ⟨x, hx, rfl⟩))
    cases e
    exact hn
  rw [List.length_map, List.length_map] at ln
  refine ⟨lr, c2, _, _, rfl, rfl, e2 _ _ (e1 _ _ hr), h2, by rw [List.length_map, List.length_map, sizeLine_eq]; omega, fun c3 n3 => ⟨by show 3 ≤ sizeLine; decide, fun l nl => ?_⟩⟩
  rw [← List.map_append]
  have e3 := Ex.new (o := .lst ((row ++ ms).map V.str)) n3
  have h3 : upd H2 c3 (.lst ((row ++ ms).map V.str)) c3 = some (.lst ((row ++ ms).map V.str)) := upd_same
  rw [← List.map_append] at nl
  generalize upd H2 c3 (.lst ((row ++ ms).map V.str)) = H3 at e3 h3 nl ⊢
  have e4 := Ex.new (o := .lst [V.ref lr, .ref c1, .ref c3]) nl
  refine q l _ _ (((e1.trans e2).trans e3).trans e4) upd_same (((e1.trans e2).trans e3).back nl) rfl fun v hv => ?_
  simp only [List.mem_cons, List.not_mem_nil, or_false] at hv
  rcases hv with rfl | rfl | rfl
  · exact ⟨lr, row, rfl, .inl (e4 _ _ (e3 _ _ (e2 _ _ (e1 _ _ hr)))), fun _ => Iff.rfl, by omega⟩
  · exact ⟨c1, row, rfl, .inr (e4 _ _ (e3 _ _ (e2 _ _ h1))), fun _ => Iff.rfl, by omega⟩
  · refine ⟨c3, row ++ ms, rfl, .inl (e4 _ _ h3), fun x => ?_, by rw [List.length_append]; omega⟩
    rw [List.mem_append]
    exact ⟨fun h => h.elim id (subm x), .inl⟩
end
end K06

set_option Elab.async false
set_option linter.all false
set_option maxRecDepth 100000
set_option maxHeartbeats 4000000
/-! What _law_flat_right finds. -/
namespace K06
open PySem PySem.Spec PyProof.Rows L2 Cm
open DtE (TRow tents lookT valV_tents)
open Tb (key2 PairK wk TblAt TblC Tab TabAt rowsO tmeth firsts spTItem spTEq)
open Fk (NameV nameB srt srt_perm ents)
open EvP (Ex All2 is Gives GivesA)
theorem mem_rowX {r : TRow} {xs : List Str} {a x : Str} : x ∈ rowX r xs a ↔ x ∈ xs ∧ (lookT r (key2 a x)).isSome = true := List.mem_filter
theorem mem_fndR {r : TRow} {xs ss : List Str} {w : Int} {z : List Key × Int} : z ∈ fndR r xs w ss ↔ ∃ a ∈ ss, ∃ u ∈ rowX r xs a, z = (key2 a u, w) := by
  unfold fndR
  rw [List.mem_flatMap]
  constructor
  · rintro ⟨a, ha, h⟩
    obtain ⟨u, hu, e⟩ := List.mem_map.mp h
    exact ⟨a, ha, u, hu, e.symm⟩
  · rintro ⟨a, ha, u, hu, e⟩
    exact ⟨a, ha, List.mem_map.mpr ⟨u, hu, e.symm⟩⟩
theorem fndR_nod {r : TRow} {xs : List Str} {w : Int} (nX : xs.Nodup) : ∀ {ss : List Str}, ss.Nodup → ((fndR r xs w ss).map (·.1)).Nodup
  | [], _ => List.nodup_nil
  | a :: ss, n => by
    rw [List.nodup_cons] at n
    have e : fndR r xs w (a :: ss) = ((rowX r xs a).map fun u => (key2 a u, w)) ++ fndR r xs w ss := rfl
    rw [e, List.map_append, List.nodup_append]
    refine ⟨?_, fndR_nod nX n.2, fun x hx y hy e => ?_⟩
    · rw [List.map_map]
      refine (nX.filter _).map _ fun u v h q => h (Tb.key2_inj (show key2 a u = key2 a v from q)).2
    · rw [List.map_map] at hx
      obtain ⟨u, hu, rfl⟩ := List.mem_map.mp hx
      obtain ⟨z, hz, rfl⟩ := List.mem_map.mp hy
      obtain ⟨b, hb, u', hu', rfl⟩ := mem_fndR.mp hz
      have := (Tb.key2_inj (show key2 a u = key2 b u' from e)).1
      rw [this] at n
      exact n.1 hb
/-- found, when the rows of these are done -/
def fnd (r : TRow) (xs : List Str) (w : Int) (ss : List Str) : TRow := if 0 < w then fndR r xs w ss else []
/-- the scopes tell just the rows -/
structure ScRow (r : TRow) (xs : List Str) (S : Sc) : Prop where
  mem : ∀ t ∈ S, (∀ x, x ∈ t.2.2 ↔ x ∈ rowX r xs t.1) ∧ t.2.2.length ≤ 12
section
variable {r : TRow} {ss xs B : List Str} {S : Sc} {w : Int}
theorem sc_ok (ok : PlainOk ss xs r) (e : S.map (·.1) = ss) (h : ScRow r xs S) : ScOk S where
  nod := by rw [e]; exact ok.s.nod
  nm := fun t ht => ok.s.nm _ (by rw [← e]; exact List.mem_map.mpr ⟨t, ht, rfl⟩)
  row := fun t ht => ⟨fun n hn => ok.u.nm n (mem_rowX.mp (((h.mem t ht).1 n).mp hn)).1, (h.mem t ht).2⟩
  few := by
    have := congrArg List.length e
    rw [List.length_map] at this
    rw [this]
    exact ok.s.few
theorem fnd_ok (ok : PlainOk ss xs r) (e : S.map (·.1) = ss) (h : ScRow r xs S) (hB : ∀ x, x ∈ B ↔ ∃ t ∈ S, x ∈ t.2.2) (w1 : w < 10 ^ 30) : WorthsOk ss B (fnd r xs w ss) := by
  unfold fnd
  by_cases c : 0 < w
  · rw [if_pos c]
    refine ⟨fndR_nod ok.u.nod ok.s.nod, fun t ht => ?_, fun t ht => ?_⟩
    · obtain ⟨a, ha, u, hu, rfl⟩ := mem_fndR.mp ht
      rw [← e] at ha
      obtain ⟨z, hz, rfl⟩ := List.mem_map.mp ha
      exact ⟨z.1, by rw [← e]; exact List.mem_map.mpr ⟨z, hz, rfl⟩, u, (hB u).mpr ⟨z, hz, ((h.mem z hz).1 u).mpr hu⟩, rfl⟩
    · obtain ⟨a, ha, u, hu, rfl⟩ := mem_fndR.mp ht
      exact ⟨c, w1⟩
  · rw [if_neg c]
    exact ⟨List.nodup_nil, (fun t ht => nomatch ht), (fun t ht => nomatch ht)⟩
theorem fnd_wk (ok : PlainOk ss xs r) (e : S.map (·.1) = ss) (h : ScRow r xs S) (w0 : 0 ≤ w) (k : List Key) : flatG S w k = wk (fnd r xs w ss) k := by
  have nS : (S.map (·.1)).Nodup := by rw [e]; exact ok.s.nod
  by_cases c : 0 < w
  · unfold fnd
    rw [if_pos c]
    have nod := fndR_nod (r := r) (w := w) ok.u.nod ok.s.nod
    by_cases c2 : ∃ a ∈ ss, ∃ u ∈ rowX r xs a, k = key2 a u
    · obtain ⟨a, ha, u, hu, rfl⟩ := c2
      have m : (key2 a u, w) ∈ fndR r xs w ss := mem_fndR.mpr ⟨a, ha, u, hu, rfl⟩
      unfold wk
      rw [(look_mem nod).mpr m]
      rw [← e] at ha
      obtain ⟨z, hz, rfl⟩ := List.mem_map.mp ha
      show (if u ∈ rowOf S z.1 then w else 0) = w
      rw [rowOf_in nS hz, if_pos (((h.mem z hz).1 u).mpr hu)]
    · have l : wk (fndR r xs w ss) k = 0 := by
        unfold wk
        cases q : lookT (fndR r xs w ss) k with
        | none => rfl
        | some v =>
          obtain ⟨a, ha, u, hu, e2⟩ := mem_fndR.mp ((look_mem nod).mp q)
          exact absurd ⟨a, ha, u, hu, (Prod.mk.inj e2).1⟩ c2
      rw [l]
      refine flatG_out k fun ⟨a, ha, z, hz, ek⟩ => c2 ?_
      obtain ⟨t, ht, rfl⟩ := List.mem_map.mp ha
      have m := (mem_rowFl.mp hz).1
      rw [rowOf_in nS ht] at m
      exact ⟨t.1, by rw [← e]; exact List.mem_map.mpr ⟨t, ht, rfl⟩, z.1, ((h.mem t ht).1 _).mp m, ek⟩
  · have w00 : w = 0 := by omega
    unfold fnd
    rw [if_neg c]
    show flatG S w k = 0
    unfold flatG
    split
    · split
      · exact w00
      · rfl
    · rfl
theorem uses_few (ok : PlainOk ss xs r) (h : ScRow r xs S) (nB : B.Nodup) (hB : ∀ x, x ∈ B ↔ ∃ t ∈ S, x ∈ t.2.2) : NamesOk B := by
  have sub : ∀ x ∈ B, x ∈ xs := fun x hx => by
    obtain ⟨t, ht, m⟩ := (hB x).mp hx
    exact (mem_rowX.mp (((h.mem t ht).1 x).mp m)).1
  exact ⟨nB, fun n hn => ok.u.nm n (sub n hn), Nat.le_trans (nodup_le nB sub) ok.u.few⟩
end
/-- the kept form of a row -/
def isL (H : Hp) (a : Addr) : Bool := match H a with
  | some (.lst _) => true
  | _ => false
def kData (H : Hp) (t : Str × Addr × List Str) : PyData := .tuple [.str t.1, .bool (isL H t.2.1), .list (t.2.2.map .str)]
def keptPR (H0 : Hp) (t : Str × Addr × List Str) : EvP.PR := ⟨fun v H => ∃ p l : Addr, v = .ref p ∧ H p = some (.tup [.str t.1, .bl (isL H0 t.2.1), .ref l]) ∧ H l = some (.lst (t.2.2.map V.str)), fun v H H' e h => by
  obtain ⟨p, l, h1, h2, h3⟩ := h
  exact ⟨p, l, h1, e _ _ h2, e _ _ h3⟩⟩
theorem kept_dp {K : PySem.W.Frag} {H0 H : Hp} : ∀ {S : Sc} {vs : List V}, All2 H (S.map (keptPR H0)) vs → DpAll K H vs (S.map (kData H0))
  | [], _, .nil => .nil
  | t :: S, _, .cons h r => by
    obtain ⟨p, l, rfl, h2, h3⟩ := h
    exact .cons (.tup (SqT.of h2) (.cons (.str _) (.cons (.bl _) (.cons (.lst (SqL.of h3) (Tb.dp_strs _)) .nil)))) (kept_dp r)
theorem kData_eq (H0 : Hp) : ∀ S : Sc, PyData.eqvAll (S.map (kData H0)) (S.map (kData H0)) = true
  | [] => rfl
  | t :: S => by
    show ((((t.1 == t.1) && ((isL H0 t.2.1 == isL H0 t.2.1) && (PyData.eqvAll (t.2.2.map PyData.str) (t.2.2.map PyData.str) && true)))) && PyData.eqvAll (S.map (kData H0)) (S.map (kData H0))) = true
    rw [kData_eq H0 S, Tb.eqv_strs, decide_eq_true rfl]
    simp
theorem kData_lay (H0 : Hp) : ∀ {S : Sc}, (∀ t ∈ S, PyData.strOk t.1 = true ∧ ∀ x ∈ t.2.2, PyData.strOk x = true) → PyData.canLayAll0 (S.map (kData H0)) = true
  | [], _ => rfl
  | t :: S, h => by
    show ((PyData.strOk t.1 && (true && (PyData.canLayAll0 (t.2.2.map PyData.str) && true))) && PyData.canLayAll0 (S.map (kData H0))) = true
    rw [kData_lay H0 fun z hz => h z (.tail _ hz), (h t (.head _)).1, Tb.lay_strs (h t (.head _)).2]
    rfl
theorem kData_depth (H0 : Hp) : ∀ S : Sc, PyData.depthAll (S.map (kData H0)) ≤ 2
  | [] => Nat.zero_le _
  | t :: S => by
    show max (PyData.depthAll [PyData.str t.1, .bool (isL H0 t.2.1), .list (t.2.2.map .str)] + 1) (PyData.depthAll (S.map (kData H0))) ≤ 2
    have h := kData_depth H0 S
    have e : PyData.depthAll [PyData.str t.1, .bool (isL H0 t.2.1), .list (t.2.2.map .str)] = 1 := by
      show max 0 (max 0 (max (PyData.depthAll (t.2.2.map PyData.str) + 1) 0)) = 1
      rw [Tb.depth_strs]
      rfl
    rw [e]
    omega
theorem kData_shaped {H0 : Hp} {S : Sc} (h : ∀ t ∈ S, PyData.strOk t.1 = true ∧ ∀ x ∈ t.2.2, PyData.strOk x = true) : SeqAt.shaped (.list (S.map (kData H0))) = true := by
  show (PyData.canLayAll0 (S.map (kData H0)) && decide (PyData.depthAll (S.map (kData H0)) + 1 ≤ 64)) = true
  rw [kData_lay H0 h, decide_eq_true (by have := kData_depth H0 S; omega)]
  rfl
theorem stays_kept (H0 : Hp) (t : Str × Addr × List Str) (v : V) (H : Hp) (D : Addr) (ys zs : List V) (h : (keptPR H0 t).R v H) (hD : H D = some (.lst ys)) (ne : ∀ p l : Addr, v = .ref p → H p = some (.tup [.str t.1, .bl (isL H0 t.2.1), .ref l]) → l ≠ D) : (keptPR H0 t).R v (upd H D (.lst zs)) := by
  obtain ⟨p, l, h1, h2, h3⟩ := h
  exact ⟨p, l, h1, by rw [upd_ne (ne_of h2 hD fun z => nomatch z)]; exact h2, by rw [upd_ne (ne p l h1 h2)]; exact h3⟩
abbrev rListOf (K : PySem.W.Frag) : List V → Hp → VK → Prop := fun xs H Q => ∃ p ys, xs = [V.ref p] ∧ (SqL K H p ys ∨ SqT K H p ys) ∧ ∀ l, H l = none → Q (.ref l) (upd H l (.lst ys))
abbrev teK (K : PySem.W.Frag) : TE := tTup (tCons (tVar 6) (tCons (tCB (rIsi K) (tCons (tDGet (tVar 3) (tVar 6)) (tCons (tC (.ty "list")) tNil))) (tCons (tCB (rListOf K) (tCons (tDGet (tVar 3) (tVar 6)) tNil)) tNil)))
theorem valV_sc {S : Sc} (nod : (S.map (·.1)).Nodup) {t : Str × Addr × List Str} (ht : t ∈ S) : valV (S.map fun t => ((Sum.inr t.1 : Key), V.ref t.2.1)) (Sum.inr t.1) = some (.ref t.2.1) := by
  induction S with
  | nil => cases ht
  | cons z S ih =>
    rw [List.map_cons, List.nodup_cons] at nod
    rw [List.map_cons]
    unfold valV at ih ⊢
    rw [List.find?_cons]
    rcases List.mem_cons.mp ht with rfl | ht
    · rw [decide_eq_true rfl]
      rfl
    · have ne : ¬ ((Sum.inr z.1 : Key) = Sum.inr t.1) := fun e => nod.1 (List.mem_map.mpr ⟨t, ht, (Sum.inr.inj e).symm⟩)
      rw [decide_eq_false ne]
      exact ih nod.2 ht
section
variable {K : PySem.W.Frag} {σ : L2.St} {H : Hp}
/-- [(source, isinstance(..), list(..)) for source in scopes_so], scopes_so locked -/
theorem g_kept {d : Addr} {od : Obj} {S : Sc} {H0 : Hp} (h3 : σ[3]? = some (some (.ref d))) (ln : 6 < σ.length) (hd : H d = some (.frz od (scO S))) (nod : (S.map (·.1)).Nodup) (few : S.length ≤ 6)
    (hr : ∀ t ∈ S, (isL H0 t.2.1 = true ∧ H t.2.1 = some (.lst (t.2.2.map V.str))) ∨ (isL H0 t.2.1 = false ∧ H t.2.1 = some (.tup (t.2.2.map V.str)))) :
    Gives (tLc (iKeys (tVar 3)) (gName 6) tYes (teK K) [6]) σ H (EvP.lst H (S.map (keptPR H0))) := fun H1 e1 Q q => by
  have hw := walks_keys (σ := σ) (m := 3) h3 hd
  refine hw H1 e1 _ fun J H2 e2 ⟨G, w, g⟩ D hD => ?_
  rw [List.length_map, List.length_map] at w
  refine lc_it w (fun j H' => ∃ acc, H' D = some (.lst acc) ∧ Ex H2 H' ∧ All2 H' ((S.take j).map (keptPR H0)) acc ∧ acc.length = (S.take j).length ∧ ∀ v ∈ acc, ∀ p l : Addr, v = .ref p → ∀ x b, H' p = some (.tup [x, b, .ref l]) → l ≠ D) ⟨[], upd_same, Ex.new hD, .nil, rfl, (fun v hv => nomatch hv)⟩ (fun j H' _ ⟨_, _, e3, _⟩ => g _ e3) (fun j x H' H'' hj ⟨acc, a1, a2, a3, a4, a5⟩ y => ?_) (fun H' ⟨acc, a1, a2, a3, a4, a5⟩ => ?_)
  · obtain ⟨rfl, hx⟩ := y
    rw [List.getElem?_map, List.getElem?_map] at hx
    obtain ⟨kv, hkv, rfl⟩ := Option.map_eq_some_iff.mp hx
    obtain ⟨t, ht, rfl⟩ := Option.map_eq_some_iff.mp hkv
    have mt := List.mem_of_getElem? ht
    have eH := (e1.trans e2).trans a2
    have tk : S.take (j + 1) = S.take j ++ [t] := by
      rw [List.take_add_one, ht]
      rfl
    have lw : (wipe σ [6]).length = σ.length := wipe_length σ [6]
    have g6 : ((wipe σ [6]).set 6 (some (kV (Sum.inr t.1))))[6]? = some (some (.str t.1)) := by
      rw [List.getElem?_set_self (by rw [lw]; exact ln)]
      rfl
    have g3 : ((wipe σ [6]).set 6 (some (kV (Sum.inr t.1))))[3]? = some (some (.ref d)) := by
      rw [List.getElem?_set_ne (by decide)]
      show ((wipe σ []).set 6 none)[3]? = _
      rw [List.getElem?_set_ne (by decide)]
      exact h3
    have vr := valV_sc nod mt
    have fz := eH _ _ hd
    refine ⟨by
      show (((wipe σ []).set 6 none).set 6 _).set 6 none = (wipe σ []).set 6 none
      rw [List.set_set, List.set_set], ?_⟩
    -- the row, in its form
    have ty : ∃ b, isL H0 t.2.1 = b ∧ ∀ Q : VK, (∀ Hx, Ex H'' Hx → Q (.bl b) Hx) → ∀ H3, Ex H'' H3 → rIsi K [.ref t.2.1, .ty "list"] H3 Q := by
      rcases hr t mt with ⟨i1, i2⟩ | ⟨i1, i2⟩
      · exact ⟨true, i1, fun Q q H3 e3 => ⟨.ref t.2.1, .ty "list", _, _, true, rfl, .ty _, .base (.lst (e3 _ _ (eH _ _ i2))), kit_ty (by decide +kernel), q H3 e3⟩⟩
      · exact ⟨false, i1, fun Q q H3 e3 => ⟨.ref t.2.1, .ty "list", _, _, false, rfl, .ty _, .base (.tup (e3 _ _ (eH _ _ i2))), kit_ty (by decide +kernel), q H3 e3⟩⟩
    obtain ⟨b, eb, isq⟩ := ty
    refine ⟨_, g6, _, g3, _, g6, d, _, rfl, .inl ⟨_, Sum.inr t.1, .inr ⟨od, fz⟩, rfl, vr.symm⟩, ?_⟩
    dsimp only [tCons, tC, tNil]
    refine isq _ (fun Hx ex => ?_) H'' (Ex.refl _)
    refine ⟨_, g3, _, g6, d, _, rfl, .inl ⟨_, Sum.inr t.1, .inr ⟨od, ex _ _ fz⟩, rfl, vr.symm⟩, t.2.1, t.2.2.map V.str, rfl, ?_, fun l nl => ⟨by show 3 ≤ sizeLine; decide, fun p np => ?_⟩⟩
    · rcases hr t mt with ⟨i1, i2⟩ | ⟨i1, i2⟩
      · exact .inl (SqL.of (ex _ _ (eH _ _ i2)))
      · exact .inr (SqT.of (ex _ _ (eH _ _ i2)))
    have el := Ex.new (o := .lst (t.2.2.map V.str)) nl
    have ep := Ex.new (o := .tup [V.str t.1, .bl b, .ref l]) np
    have e5 := (ex.trans el).trans ep
    have aD := e5 _ _ a1
    have lD : l ≠ D := (ne_of_none (ex _ _ a1) nl).symm
    have pD : p ≠ D := (ne_of_none ((ex.trans el) _ _ a1) np).symm
    refine ⟨acc, aD, ?_, acc ++ [.ref p], upd_same, fun c o hc => ?_, ?_, ?_, fun v hv p' l' ev x' b' hp' => ?_⟩
    · have := few
      rw [a4, List.length_take, sizeLine_eq]
      omega
    · rw [upd_ne (ne_of_none hc hD)]
      exact e5 _ _ (a2 _ _ hc)
    · rw [tk, List.map_append]
      have old : All2 (upd (upd (upd Hx l (.lst (t.2.2.map V.str))) p (.tup [V.str t.1, .bl b, .ref l])) D (.lst (acc ++ [.ref p]))) ((S.take j).map (keptPR H0)) acc := by
        have gen : ∀ (L : Sc) (ac : List V), All2 H'' (L.map (keptPR H0)) ac → (∀ v ∈ ac, ∀ p l : Addr, v = .ref p → ∀ x b, H'' p = some (.tup [x, b, .ref l]) → l ≠ D) → All2 (upd (upd (upd Hx l (.lst (t.2.2.map V.str))) p (.tup [V.str t.1, .bl b, .ref l])) D (.lst (acc ++ [.ref p]))) (L.map (keptPR H0)) ac := fun L => by
          induction L with
          | nil =>
            intro ac h _
            cases h
            exact .nil
          | cons z L ih =>
            intro ac h hn
            cases h with
            | cons h hs =>
              refine .cons ?_ (ih _ hs fun v hv => hn v (.tail _ hv))
              obtain ⟨p0, l0, ev0, q1, q2⟩ := h
              exact stays_kept H0 z _ _ D acc _ ((keptPR H0 z).mono _ _ _ e5 ⟨p0, l0, ev0, q1, q2⟩) aD fun p1 l1 ev1 hp1 => by
                rw [ev0] at ev1
                cases ev1
                rw [e5 _ _ q1] at hp1
                have := HO.tup.inj (Option.some.inj hp1)
                simp only [List.cons.injEq, V.ref.injEq, and_true, true_and] at this
                rw [← this]
                exact hn _ (.head _) p0 l0 ev0 _ _ q1
        exact gen _ _ a3 a5
      refine all2_snoc old ⟨p, l, rfl, ?_, ?_⟩
      · rw [upd_ne pD, upd_same, eb]
      · rw [upd_ne lD]
        exact ep _ _ upd_same
    · rw [tk, List.length_append, List.length_append, a4]
      rfl
    · rcases List.mem_append.mp hv with hv | hv
      · have m := a5 v hv p' l' ev x' b'
        by_cases pd : p' = D
        · rw [pd, upd_same] at hp'
          cases hp'
        rw [upd_ne pd] at hp'
        obtain ⟨z, hz⟩ : ∃ u0, H'' p' = some u0 := by
          have gen : ∀ (L : Sc) (ac : List V), All2 H'' (L.map (keptPR H0)) ac → v ∈ ac → ∃ u0, H'' p' = some u0 := fun L => by
            induction L with
            | nil =>
              intro ac h hv
              cases h
              cases hv
            | cons z L ih =>
              intro ac h hv
              cases h with
              | cons h hs =>
                rcases List.mem_cons.mp hv with rfl | hv
                · obtain ⟨p0, l0, ev0, q1, q2⟩ := h
                  rw [ev0] at ev
                  cases ev
                  exact ⟨_, q1⟩
                · exact ih _ hs hv
          exact gen _ _ a3 hv
        rw [e5 _ _ hz] at hp'
        rw [← hp'] at m
        exact m hz
      · rw [List.mem_singleton.mp hv] at ev
        cases ev
        rw [upd_ne pD, upd_same] at hp'
        have := HO.tup.inj (Option.some.inj hp')
        simp only [List.cons.injEq, V.ref.injEq, and_true] at this
        rw [← this.2.2]
        exact lD
  · rw [List.take_length] at a3
    exact q _ _ (e2.trans a2) ⟨D, acc, rfl, a1, (e1.trans e2).back hD, a3⟩
end
end K06

set_option Elab.async false
set_option linter.all false
set_option maxRecDepth 100000
set_option maxHeartbeats 4000000
/-! _law_flat_right: the def. -/
namespace K06
open PySem PySem.Spec PyProof.Rows L2 Cm
open DtE (TRow tents lookT valV_tents)
open Tb (key2 PairK wk TblAt TblC Tab TabAt rowsO tmeth firsts spTItem spTEq)
open Fk (NameV nameB srt srt_perm ents)
open EvP (Ex All2 is Gives GivesA)
def kwF {α : Type} : List α → List α → List α
  | [], [w, s] => [s, w]
  | _, _ => []
/-- the static method flat -/
structure Flt7 (P : Program) (w : World) (K : PySem.W.Frag) (mg : Str → Option Value) (base : Heap) (C : Addr) where
  mc : Value
  RC : ClX.CRead K C mc
  p : Addr
  g : Addr
  fd : FuncData
  SM : SMet K C mc "flat" p g
  ok : XG.FnG P w K mg base CX0 7 g fd ["scopes", "worth"] (spFlat C)
  b2 : Binds K fd ["scopes", "worth"] []
  ds : List Value
  b1 : Binds K fd ["scopes", "worth"] ds
  hd : Vals [V.int 1] ds
  kb : KBinds K fd ["scopes", "worth"] ["worth", "scopes"] kwF kwF
abbrev sFlr : Stmt := top 50
abbrev NFr : List Str := ["pen", "plain", "worth_so", "scopes_so", "found", "uses_so", "source", "row", "kept", "made", "one", "use", "pair"]
theorem scFlr : FnScope NFr ["pen", "plain"] (defScope sFlr) := ⟨rfl, rfl, rfl, by decide +kernel, rfl, by decide +kernel, by decide +kernel⟩
section
variable {K : PySem.W.Frag} {C : Addr} {σ : L2.St} {H : Hp} {ss B : List Str} {S : Sc} {w : Int}
theorem go_flat {d : Addr} {Q : VK} (hS : ScAt H d S) (ok : ScOk S) (w0 : 0 ≤ w) (nB : NamesOk B) (hB : ∀ x, x ∈ B ↔ ∃ t ∈ S, x ∈ t.2.2) (q : ∀ c H', Ex H H' → TabW C (S.map (·.1)) B (flatG S w) c H' → Q c H') : spFlat C [.ref d, .int w] H Q E0 := ⟨d, S, w, B, rfl, hS, ok, w0, nB, hB, q⟩
end
theorem valV_nosc {S : Sc} {s : Str} (h : s ∉ S.map (·.1)) : valV (S.map fun t => ((Sum.inr t.1 : Key), V.ref t.2.1)) (Sum.inr s) = none := by
  have no : ¬ ((S.map fun t => ((Sum.inr t.1 : Key), V.ref t.2.1)).any fun kv => decide (kv.1 = Sum.inr s)) = true := by
    intro y
    obtain ⟨p, hp, ep⟩ := List.any_eq_true.mp y
    obtain ⟨m, hm, rfl⟩ := List.mem_map.mp hp
    exact h (List.mem_map.mpr ⟨m, hm, Sum.inr.inj (of_decide_eq_true ep)⟩)
  rw [valV_any] at no
  simpa using no
theorem fndR_snoc (r : TRow) (xs : List Str) (w : Int) (l : List Str) (a : Str) : fndR r xs w (l ++ [a]) = fndR r xs w l ++ (rowX r xs a).map fun u => (key2 a u, w) := by
  unfold fndR
  rw [List.flatMap_append]
  simp
theorem fndR_len {r : TRow} {xs : List Str} {w : Int} (hx : xs.length ≤ 6) : ∀ l : List Str, (fndR r xs w l).length ≤ 6 * l.length
  | [] => Nat.zero_le _
  | a :: l => by
    have e : fndR r xs w (a :: l) = ((rowX r xs a).map fun u => (key2 a u, w)) ++ fndR r xs w l := rfl
    have := fndR_len (r := r) (w := w) hx l
    have f : (rowX r xs a).length ≤ xs.length := List.length_filter_le _ _
    rw [e, List.length_append, List.length_map, List.length_cons]
    omega
/-- the rows of the scopes, in a world -/
def RowsAt (H0 H : Hp) (S : Sc) : Prop := ∀ t ∈ S, (isL H0 t.2.1 = true ∧ H t.2.1 = some (.lst (t.2.2.map V.str))) ∨ (isL H0 t.2.1 = false ∧ H t.2.1 = some (.tup (t.2.2.map V.str)))
theorem rowsAt_of {H : Hp} {d : Addr} {S : Sc} (h : ScAt H d S) : RowsAt H H S := fun t ht => (h.row t ht).imp (fun r => ⟨by unfold isL; rw [r], r⟩) fun r => ⟨by unfold isL; rw [r], r⟩
theorem RowsAt.ex {H0 H H' : Hp} {S : Sc} (h : RowsAt H0 H S) (e : Ex H H') : RowsAt H0 H' S := fun t ht => (h t ht).imp (fun r => ⟨r.1, e _ _ r.2⟩) fun r => ⟨r.1, e _ _ r.2⟩
theorem RowsAt.lock {H0 H : Hp} {S : Sc} (h : RowsAt H0 H S) {d : Addr} {o : HO} (hd : H d = some (scO S)) : RowsAt H0 (upd H d o) S := fun t ht => (h t ht).imp (fun r => ⟨r.1, by rw [upd_ne (ne_of r.2 hd fun z => nomatch z)]; exact r.2⟩) fun r => ⟨r.1, by rw [upd_ne (ne_of r.2 hd fun z => nomatch z)]; exact r.2⟩
theorem kept_thaw {H0 H : Hp} {d : Addr} {od : Obj} {u o : HO} (hd : H d = some (.frz od u)) : ∀ {S : Sc} {vs : List V}, All2 H (S.map (keptPR H0)) vs → All2 (upd H d o) (S.map (keptPR H0)) vs
  | [], _, .nil => .nil
  | t :: S, _, .cons h r => by
    obtain ⟨p, l, h1, h2, h3⟩ := h
    exact .cons ⟨p, l, h1, by rw [upd_ne (ne_of h2 hd fun z => nomatch z)]; exact h2, by rw [upd_ne (ne_of h3 hd fun z => nomatch z)]; exact h3⟩ (kept_thaw hd r)
/-- the list of the kept rows -/
def keptL (H0 : Hp) (S : Sc) : EvP.PR := ⟨fun v H => ∃ a vs, v = .ref a ∧ H a = some (.lst vs) ∧ All2 H (S.map (keptPR H0)) vs, fun _ _ _ e h => by
  obtain ⟨a, vs, h1, h2, h3⟩ := h
  exact ⟨a, vs, h1, e _ _ h2, h3.ex e⟩⟩
section
variable {K : PySem.W.Frag} {σ : L2.St} {H H0 : Hp} {d : Addr} {S : Sc}
theorem thawEx {H H2 : Hp} {d : Addr} {od : Obj} {u : HO} (hd : H d = some u) (e : Ex (upd H d (.frz od u)) H2) : Ex H (upd H2 d u) := fun b o hb => by
  by_cases c : b = d
  · rw [c, upd_same, ← hd, ← c]
    exact hb
  · rw [upd_ne c]
    exact e _ _ (by rw [upd_ne c]; exact hb)
theorem thaw_kept {H H2 : Hp} {d : Addr} {od : Obj} (e : H2 d = some (.frz od (scO S))) {v : V} (h : (EvP.lst H (S.map (keptPR H0))).R v H2) : (keptL H0 S).R v (upd H2 d (scO S)) := by
  obtain ⟨a, vs, h1, h2, _, h3⟩ := h
  exact ⟨a, vs, h1, by rw [upd_ne (ne_of h2 e fun z => nomatch z)]; exact h2, kept_thaw e h3⟩
theorem g_keptE (h3 : σ[3]? = some (some (.ref d))) (ln : 6 < σ.length) (hS : ScAt H d S) (nod : (S.map (·.1)).Nodup) (few : S.length ≤ 6) (hr : RowsAt H0 H S) :
    Gives (tLockE (tLc (iKeys (tVar 3)) (gName 6) tYes (teK K) [6])) σ H (keptL H0 S) := fun H1 e1 Q q => by
  have at1 := e1 _ _ hS.at_
  refine ⟨d, scO S, at1, True.intro, fun od => ?_⟩
  refine (g_kept (K := K) (H0 := H0) h3 ln upd_same nod few ((hr.ex e1).lock at1)) _ (Ex.refl _) _ fun v H2 e2 hv => ⟨e2 _ _ upd_same, q v _ (thawEx at1 e2) (thaw_kept (e2 _ _ upd_same) hv)⟩
theorem st_kept {u : TS} {D : Ends} (h3 : σ[3]? = some (some (.ref d))) (ln : 6 < σ.length) (hS : ScAt H d S) (nod : (S.map (·.1)).Nodup) (few : S.length ≤ 6) (hr : RowsAt H0 H S) (k : ∀ v H1, Ex H H1 → (keptL H0 S).R v H1 → u D (σ.set 8 (some v)) H1) :
    tSeq (tLock (tAsg (tLc (iKeys (tVar 3)) (gName 6) tYes (teK K) [6]) (gName 8))) u D σ H := by
  refine ⟨d, scO S, hS.at_, True.intro, fun od => ?_⟩
  refine (g_kept (K := K) (H0 := H0) h3 ln upd_same nod few (hr.lock hS.at_)) _ (Ex.refl _) _ fun v H2 e2 hv => ⟨e2 _ _ upd_same, k v _ (thawEx hS.at_ e2) (thaw_kept (e2 _ _ upd_same) hv)⟩
theorem t_kept (h3 : σ[3]? = some (some (.ref d))) (h8 : ∃ v, σ[8]? = some (some v) ∧ (keptL H0 S).R v H) (ln : 6 < σ.length) (hS : ScAt H d S) (nod : (S.map (·.1)).Nodup) (few : S.length ≤ 6) (hr : RowsAt H0 H S)
    (ok : ∀ t ∈ S, PyData.strOk t.1 = true ∧ ∀ x ∈ t.2.2, PyData.strOk x = true) :
    Tst (tTest (tOp (rNeD K) (tLockE (tLc (iKeys (tVar 3)) (gName 6) tYes (teK K) [6])) (tVar 8))) σ H false := by
  obtain ⟨v8, e8, hv8⟩ := h8
  refine t_test (g_op (g_keptE (K := K) h3 ln hS nod few hr) (EvP.varP (P := keptL H0 S) e8 hv8) fun x y H1 e1 hx hy Q q => ?_)
  obtain ⟨a, vs, rfl, ha, hs⟩ := hx
  obtain ⟨b, ws, rfl, hb, ht⟩ := hy
  refine ⟨.list (S.map (kData H0)), .list (S.map (kData H0)), .lst (SqL.of ha) (kept_dp hs), .lst (SqL.of hb) (kept_dp ht), kData_shaped ok, kData_shaped ok, q _ _ (Ex.refl _) ?_⟩
  show V.bl (!PyData.eqvAll (S.map (kData H0)) (S.map (kData H0))) = V.bl false
  rw [kData_eq]
  rfl
end
/-- Table.flat of the scopes -/
theorem g_flat2 {C : Addr} {K : PySem.W.Frag} {σ : L2.St} {H : Hp} {d : Addr} {S : Sc} {B : List Str} {n : Int} (h3 : σ[3]? = some (some (.ref d))) (h2 : σ[2]? = some (some (.int n))) (hS : ScAt H d S) (ok : ScOk S) (n0 : 0 ≤ n) (nB : NamesOk B) (hB : ∀ x, x ∈ B ↔ ∃ t ∈ S, x ∈ t.2.2) :
    Gives (tSM C (spFlat C) [] (tC (.ref C)) (tCons (tVar 3) (tCons (tVar 2) tNil))) σ H (tabW C (S.map (·.1)) B (flatG S n)) := fun H1 e1 Q q => ⟨rfl, _, h3, _, h2, go_flat (hS.ex e1) ok n0 nB hB fun c H' e' h => q c H' e' h⟩
theorem g_flatK {C : Addr} {K : PySem.W.Frag} {σ : L2.St} {H : Hp} {d : Addr} {S : Sc} {B : List Str} {n : Int} (h3 : σ[3]? = some (some (.ref d))) (h2 : σ[2]? = some (some (.int n))) (hS : ScAt H d S) (ok : ScOk S) (n0 : 0 ≤ n) (nB : NamesOk B) (hB : ∀ x, x ∈ B ↔ ∃ t ∈ S, x ∈ t.2.2) :
    Gives (XG.tSMK C (spFlat C) kwF (tC (.ref C)) (tCons (tVar 2) (tCons (tVar 3) tNil))) σ H (tabW C (S.map (·.1)) B (flatG S n)) := fun H1 e1 Q q => ⟨rfl, _, h2, _, h3, go_flat (hS.ex e1) ok n0 nB hB fun c H' e' h => q c H' e' h⟩
theorem g_flat1 {C : Addr} {K : PySem.W.Frag} {σ : L2.St} {H : Hp} {d : Addr} {S : Sc} {B : List Str} (h3 : σ[3]? = some (some (.ref d))) (hS : ScAt H d S) (ok : ScOk S) (nB : NamesOk B) (hB : ∀ x, x ∈ B ↔ ∃ t ∈ S, x ∈ t.2.2) :
    Gives (tSM C (spFlat C) [V.int 1] (tC (.ref C)) (tCons (tVar 3) tNil)) σ H (tabW C (S.map (·.1)) B (flatG S 1)) := fun H1 e1 Q q => ⟨rfl, _, h3, go_flat (hS.ex e1) ok (by decide) nB hB fun c H' e' h => q c H' e' h⟩
section
variable {P : Program} {w : World} {K : PySem.W.Frag} {mg : Str → Option Value} {base : Heap} {C f : Addr} {fd : FuncData}
theorem ok_flr (F : Fun K "_law_flat_right" "_law_flat_right" sFlr f fd) (M : Tbl7 P w K mg base C) (FL : Flt7 P w K mg base C) (hD : mg "dict" = none) (hT : mg "tuple" = none) (hLi : mg "list" = none) (hI : mg "isinstance" = none)
    (DI : CalG P w K mg base 5 "_law_is" ["table", "plain"] (spIs5 C)) (DK : CalD P w K mg base 2 "_law_pick" ["pen", "some"] spPick) : XG.FnG P w K mg base CX0 8 f fd ["pen", "plain"] spR7 := by
  have nd := scFlr.nd
  refine XG.Fun.okG F scFlr spR7_len fun cdv A outer sh H vs Q E gd hr h => ?_
  obtain ⟨p, q, ns, s, g, v, ss, xs, r, rfl, hP, hl, s0, s1, pa, ok, k⟩ := h
  have hu := hu_of hr
  have hu2 : A.units + 3 + 2 < cLine := by
    have : A.units + 3 + 16 * 7 + 200 < cLine := hr.un
    omega
  refine ⟨_, pss_cons (ps_asg (pe_tup (pa_cons (pe_call DK.ok (hr.mono (by decide)) (by rfl) DK.g DK.kp DK.b .nil pass0 (pa_cons (pv 0) (pa_cons (pe_lst (pa_cons pe_int (pa_cons pe_int (pa_cons pe_int (pa_cons (pe_op op_sub (pe_op op_pow pe_int pe_int) pe_int) pa_nil))))) pa_nil))) (pa_cons pe_dnewK (pa_cons pe_dnewT (pa_cons (pe_lst pa_nil) pa_nil)))))
      (pg_tup rfl (pgs_cons (pg_name (i := 2) nd rfl (Or.inr rfl)) (pgs_cons (pg_name (i := 3) nd rfl (Or.inr rfl)) (pgs_cons (pg_name (i := 4) nd rfl (Or.inr rfl)) (pgs_cons (pg_name (i := 5) nd rfl (Or.inr rfl)) pgs_nil))))))
    (pss_cons (ps_for PassesOwn.never rfl (pi_list (pe_ix ix_tup (pv 1) pe_int (fun _ _ => rfl))) (pg_name (i := 6) nd rfl (Or.inr rfl))
      (pss_cons (ps_setLc (own := [("use", 11)]) (g := gName 11) (tt := tB (tDIn (tTup (tCons (tVar 6) (tCons (tVar 11) tNil))) (tOp (rIxT K) (tVar 1) (tC (.int 2))))) (te := tVar 11) (i := 7) rfl nd rfl rfl rfl (pi_list (pe_ix ix_tup (pv 1) pe_int (fun _ _ => rfl))) (blkOk_by (N := NFr) (sc := defScope sFlr) (by decide +kernel))
        (fun _ _ _ _ _ => pg_name (i := 11) nd rfl (Or.inl rfl)) (fun _ _ _ _ _ => pts_one (pt_cmp (pc_din hu (pe_tup (pa_cons (pv 6) (pa_cons (pv 11) pa_nil))) (pe_ix ix_tup (pv 1) pe_int (fun _ _ => rfl))))) (fun _ _ _ _ _ => pv 11))
      (pss_cons (ps_dput hu (pv 3) (pv 6) (pe_call DK.ok (hr.mono (by decide)) (by rfl) DK.g DK.kp DK.b .nil pass0 (pa_cons (pv 0) (pa_cons (pe_lst (pa_cons (pv 7) (pa_cons (pe_callTy (T := "tuple") call_tuple_of (by rfl) hT (by decide +kernel) (pa_cons (pv 7) pa_nil)) (pa_cons (pe_op op_cat (pv 7) (pe_slice sl_list (pv 7) po_none (po_some pe_int))) pa_nil)))) pa_nil))) rfl)
      (pss_cons (ps_set (i := 5) nd rfl (Or.inr rfl) (pe_op op_cat (pv 5) (pe_lc (own := [("use", 11)]) (g := gName 11) (tt := tTest (tOp (rIn K true) (tVar 11) (tVar 5))) (te := tVar 11) rfl nd (pi_list (pv 7)) (blkOk_by (N := NFr) (sc := defScope sFlr) (by decide +kernel))
        (fun _ _ _ _ _ => pg_name (i := 11) nd rfl (Or.inl rfl)) (fun _ _ _ _ _ => pts_one (pt_cmpR op_notIn_seq (pv 11) (pv 5) (by rfl))) (fun _ _ _ _ _ => pv 11))))
      (pss_one (ps_if (pt_cmpR op_gt (pv 2) pe_int (nomark _)) (pss_one (ps_set (i := 4) nd rfl (Or.inr rfl) (pe_callTy (T := "dict") (call_dictT rfl hu2) (by rfl) hD (by decide +kernel) (pa_cons (pe_op op_cat
          (pe_lock (pe_lc (own := [("pair", 12)]) (g := gName 12) (tt := tYes) (te := tTup (tCons (tVar 12) (tCons (tDGet (tVar 4) (tVar 12)) tNil))) rfl nd (pi_keys (pv 4)) (blkOk_by (N := NFr) (sc := defScope sFlr) (by decide +kernel))
            (fun _ _ _ _ _ => pg_name (i := 12) nd rfl (Or.inl rfl)) (fun _ _ _ _ _ => pts_nil) (fun _ _ _ _ _ => pe_tup (pa_cons (pv 12) (pa_cons (pe_dget hu (pv 4) (pv 12) (fun _ _ => rfl)) pa_nil)))))
          (pe_lc (own := [("use", 11)]) (g := gName 11) (tt := tYes) (te := tTup (tCons (tTup (tCons (tVar 6) (tCons (tVar 11) tNil))) (tCons (tVar 2) tNil))) rfl nd (pi_list (pv 7)) (blkOk_by (N := NFr) (sc := defScope sFlr) (by decide +kernel))
            (fun _ _ _ _ _ => pg_name (i := 11) nd rfl (Or.inl rfl)) (fun _ _ _ _ _ => pts_nil) (fun _ _ _ _ _ => pe_tup (pa_cons (pe_tup (pa_cons (pv 6) (pa_cons (pv 11) pa_nil))) (pa_cons (pv 2) pa_nil))))) pa_nil)))) pss_nil))))))
    (pss_cons (ps_lock (ps_setLc (own := [("source", 6)]) (g := gName 6) (tt := tYes) (te := teK K) (i := 8) rfl nd rfl rfl rfl (pi_keys (pv 3)) (blkOk_by (N := NFr) (sc := defScope sFlr) (by decide +kernel))
        (fun _ _ _ _ _ => pg_name (i := 6) nd rfl (Or.inl rfl)) (fun _ _ _ _ _ => pts_nil) (fun _ _ _ _ _ => pe_tup (pa_cons (pv 6) (pa_cons (pe_callB call_isi (by rfl) hI (by decide +kernel) (pa_cons (pe_dget hu (pv 3) (pv 6) (fun _ _ => rfl)) (pa_cons (pe_bltn (v := .ty "list") (by rfl) hLi (by decide +kernel) rfl) pa_nil))) (pa_cons (pe_callTy (T := "list") call_list_of (by rfl) hLi (by decide +kernel) (pa_cons (pe_dget hu (pv 3) (pv 6) (fun _ _ => rfl)) pa_nil)) pa_nil))))))
    (pss_cons (ps_par (i := 9) (j := 10) (by rfl) nd rfl rfl (by decide) rfl rfl (pa_cons (pe_smG (pe_glob (v := .ref C) (by rfl) M.gT rfl) FL.RC FL.SM FL.ok spFlat_len gd hr FL.b2 .nil (pa_cons (pv 3) (pa_cons (pv 2) pa_nil))) (pa_cons (XG.pe_smKG (pe_glob (v := .ref C) (by rfl) M.gT rfl) FL.RC FL.SM FL.ok spFlat_len gd hr FL.kb (pk_cons (pv 2) (pk_cons (pv 3) pk_nil))) pa_nil)) (by rfl))
    (pss_cons (ps_if (PW.pt (pw_or (pt_not (pt_val (Tb.pe_callG DI.ok DI.len gd (hr.mono (by decide)) (by rfl) DI.g DI.kp DI.b (pa_cons (pv 9) (pa_cons (pe_tup (pa_cons (pe_ix ix_tup (pv 1) pe_int (fun _ _ => rfl)) (pa_cons (pv 5) (pa_cons (pv 4) pa_nil)))) pa_nil))))) (pw_or1 (pt_cmpR (Own.ne_own M.eq M.ne M.mro (hr.mono (by decide))) (pv 9) (pv 10) (nomark _))))) (pss_one (ps_ret pe_bl)) pss_nil)
    (pss_cons (ps_if (pt_cmpR (op_neD hr.units) (pe_lock (pe_lc (own := [("source", 6)]) (g := gName 6) (tt := tYes) (te := teK K) rfl nd (pi_keys (pv 3)) (blkOk_by (N := NFr) (sc := defScope sFlr) (by decide +kernel))
        (fun _ _ _ _ _ => pg_name (i := 6) nd rfl (Or.inl rfl)) (fun _ _ _ _ _ => pts_nil) (fun _ _ _ _ _ => pe_tup (pa_cons (pv 6) (pa_cons (pe_callB call_isi (by rfl) hI (by decide +kernel) (pa_cons (pe_dget hu (pv 3) (pv 6) (fun _ _ => rfl)) (pa_cons (pe_bltn (v := .ty "list") (by rfl) hLi (by decide +kernel) rfl) pa_nil))) (pa_cons (pe_callTy (T := "list") call_list_of (by rfl) hLi (by decide +kernel) (pa_cons (pe_dget hu (pv 3) (pv 6) (fun _ _ => rfl)) pa_nil)) pa_nil)))))) (pv 8) (nomark _)) (pss_one (ps_ret pe_bl)) pss_nil)
    (pss_one (ps_ret (pe_or (pe_cmpR op_ne (pv 2) pe_int (nomark _)) (pe_one (pe_cmpR (Own.cmp_own (op := .Eq) M.eq (hr.mono (by decide))) (pe_smG (pe_glob (v := .ref C) (by rfl) M.gT rfl) FL.RC FL.SM FL.ok spFlat_len gd hr FL.b1 FL.hd (pa_cons (pv 3) pa_nil)) (pv 9) (nomark _))))))))))), ?_⟩
  -- worth_so, scopes_so, found, uses_so = ..
  refine ⟨_, rfl, 10, 30, rfl, rfl, ⟨by decide, by decide, by decide⟩, _, 1, rfl, rfl, by show 4 ≤ sizeLine; decide, fun l nl => ?_⟩
  have lp : l ≠ p := (ne_of_none hP.p nl).symm
  refine ⟨p, q, ns, s, g, l, _, rfl, Pen.new nl hP, hl, s0, by omega, upd_same, lp, by show 0 < 4; decide, by show 4 < 100000; decide, fun v2 sb gb H2 hv2 b1 b2 hP2 hB2 => ?_⟩
  obtain ⟨n, rfl, n0, n1⟩ : ∃ n : Int, v2 = .int n ∧ 0 ≤ n ∧ n < 10 ^ 30 := by
    simp only [List.mem_cons, List.not_mem_nil, or_false] at hv2
    rcases hv2 with rfl | rfl | rfl | rfl
    · exact ⟨_, rfl, by decide, by decide⟩
    · exact ⟨_, rfl, by decide, by decide⟩
    · exact ⟨_, rfl, by decide, by decide⟩
    · exact ⟨_, rfl, by decide, by decide⟩
  have e12 := Ex.new (o := .lst [V.int 0, .int 1, .int 5, .int (10 ^ (30 : Int).toNat - 1)]) nl
  have b02 : But p H H2 := fun c o hc ne => hB2 _ _ (e12 _ _ hc) ne
  have pa2 : PlainAt H2 v ss xs r := ((plainP ss xs r).mono _ _ _ e12 pa : PlainAt _ v ss xs r).but (Pen.new nl hP) hB2
  obtain ⟨t, a, b, d, rfl, h1, h2, h3, h4⟩ := pa2.ex
  have S6 := ok.s.few
  have X6 := ok.u.few
  refine fun dS ndS => fun fd0 nfd => ⟨by show 0 ≤ sizeLine; decide, fun ub nub => ⟨by show 4 ≤ sizeLine; decide, fun tp ntp => ⟨tp, [.int n, .ref dS, .ref fd0, .ref ub], rfl, SqT.of upd_same, rfl, _, _, rfl, _, _, rfl, _, _, rfl, _, _, rfl, rfl, ?_⟩⟩⟩
  have x1 := Ex.new (o := .dK []) ndS
  have x2 := Ex.new (o := .dT []) nfd
  have x3 := Ex.new (o := .lst []) nub
  have x4 := Ex.new (o := .tup [.int n, .ref dS, .ref fd0, .ref ub]) ntp
  have E3 : Ex H2 (upd (upd (upd (upd H2 dS (.dK [])) fd0 (.dT [])) ub (.lst [])) tp (.tup [.int n, .ref dS, .ref fd0, .ref ub])) := ((x1.trans x2).trans x3).trans x4
  have y1 := x4 _ _ (x3 _ _ (x2 _ _ (upd_same (H := H2) (a := dS) (o := .dK []))))
  have y2 := x4 _ _ (x3 _ _ (upd_same (H := upd H2 dS (.dK [])) (a := fd0) (o := .dT [])))
  have y3 := x4 _ _ (upd_same (H := upd (upd H2 dS (.dK [])) fd0 (.dT [])) (a := ub) (o := .lst []))
  generalize upd (upd (upd (upd H2 dS (.dK [])) fd0 (.dT [])) ub (.lst [])) tp (.tup [.int n, .ref dS, .ref fd0, .ref ub]) = H3 at E3 y1 y2 y3 ⊢
  have hP3 : Pen H3 p q ns sb gb := ⟨E3 _ _ hP2.p, E3 _ _ hP2.q⟩
  dsimp only [gName]
  -- for source in plain[0]
  refine ⟨_, rfl, t, _, 0, .ref a, rfl, rfl, SqT.of (E3 _ _ h1), atI_nat (xs := [V.ref a, .ref b, .ref d]) (j := 0) rfl, a, rfl, ⟨_, SqL.of (E3 _ _ h2)⟩, for_list (xs := ss.map V.str) (fun j σ' H' => ∃ (S : Sc) (B : List Str) (fa ua : Addr) (o6 o7 : Option V) (sj gj : Int), σ' = [some (.ref p), some (.ref t), some (.int n), some (.ref dS), some (.ref fa), some (.ref ua), o6, o7, none, none, none, none, none] ∧ Pen H' p q ns sj gj ∧ sb ≤ sj ∧ sj ≤ sb + (j : Int) ∧ But p H2 H' ∧
      ScAt H' dS S ∧ S.map (·.1) = ss.take j ∧ ScRow r xs S ∧ H' ua = some (.lst (B.map V.str)) ∧ B.Nodup ∧ (∀ x, x ∈ B ↔ ∃ t ∈ S, x ∈ t.2.2) ∧ H' fa = some (.dT (tents (fnd r xs n (ss.take j))))) ?_ ?_ ?_ ?_⟩
  · refine ⟨[], [], fd0, ub, none, none, sb, gb, rfl, hP3, by omega, by omega, fun c o hc _ => E3 _ _ hc, ⟨y1, (fun t ht => nomatch ht)⟩, by rw [List.take_zero]; rfl, ⟨fun t ht => nomatch ht⟩, y3, List.nodup_nil, fun x => ⟨(fun h => nomatch h), (fun ⟨t, ht, _⟩ => nomatch ht)⟩, ?_⟩
    rw [List.take_zero]
    have : fnd r xs n [] = [] := by
      unfold fnd
      split <;> rfl
    rw [this]
    exact y2
  · rintro j σ' H' _ ⟨S, B, fa, ua, o6, o7, sj, gj, rfl, hPj, c1, c2, bt, _⟩
    exact SqL.of (bt _ _ h2 (ne_of h2 hP2.p fun z => by
      have := HO.lst.inj z
      cases ss with
      | nil => cases this
      | cons y ys => cases this))
  · rintro j z σ' H' hj ⟨S, B, fa, ua, o6, o7, sj, gj, rfl, hPj, c1, c2, bt, hSc, eS, hR, hua, nB, hB, hfa⟩
    rw [List.getElem?_map] at hj
    obtain ⟨so, hso, rfl⟩ := Option.map_eq_some_iff.mp hj
    have tk : ss.take (j + 1) = ss.take j ++ [so] := by
      rw [List.take_add_one, hso]
      rfl
    have nso : so ∉ S.map (·.1) := by
      rw [eS]
      exact take_no ok.s.nod hso
    have jl : j < ss.length := (List.getElem?_eq_some_iff.mp hso).1
    have lS : S.length ≤ 6 := by
      have := congrArg List.length eS
      rw [List.length_map, List.length_take] at this
      omega
    have dSp : dS ≠ p := (ne_of_none hP2.p ndS).symm
    have dSq : dS ≠ q := (ne_of_none hP2.q ndS).symm
    obtain ⟨t', a', b', d', et, h1j, h2j, h3j, h4j⟩ := (pa2.but hP2 bt).ex
    cases et
    have subX : ∀ x ∈ rowX r xs so, x ∈ xs := fun x hx => (mem_rowX.mp hx).1
    have lX : (rowX r xs so).length ≤ 6 := Nat.le_trans (List.length_filter_le _ _) X6
    have lB : B.length ≤ 6 := (uses_few ok hR nB hB).few
    dsimp only
    -- row = ..
    refine' EvP.st_set (P := lstV ((rowX r xs so).map V.str)) ?r1 ?r2
    case r1 => exact g_rowX (K := K) (σ := [some (.ref p), some (.ref t), some (.int n), some (.ref dS), some (.ref fa), some (.ref ua), some (.str so), o7, none, none, none, none, none]) (i := 1) (m := 11) (l := 6) (vs := [11]) rfl h1j h3j h4j X6 (fun _ => rfl) (fun _ => rfl) (fun _ => rfl) (fun _ => rfl)
    rintro v4 H4 f4 ⟨lr, rfl, hlr⟩
    have hP4 : Pen H4 p q ns sj gj := ⟨f4 _ _ hPj.p, f4 _ _ hPj.q⟩
    -- scopes_so[source] = ..
    refine ⟨_, rfl, go_opts (K := K) (j := 7) rfl hlr lX fun l2 vs2 H5 f5 hl2 nl2 len3 all => ?_⟩
    have hP5 : Pen H5 p q ns sj gj := ⟨f5 _ _ hP4.p, f5 _ _ hP4.q⟩
    have l2p : l2 ≠ p := (ne_of_none hP4.p nl2).symm
    refine ⟨p, q, ns, sj, gj, l2, vs2, rfl, hP5, hl, by omega, by omega, hl2, l2p, by omega, by omega, fun v5 sk gk H6 hv5 m1 m2 hP6 hB6 => ?_⟩
    obtain ⟨c, ns', rfl, hc, mem', len'⟩ := all v5 hv5
    have cp : c ≠ p := hc.elim (strs_ne hP5) fun h => ne_of h hP5.p fun z => nomatch z
    have hc6 := hc.imp (fun h => hB6 _ _ h cp) fun h => hB6 _ _ h cp
    have up6 : ∀ b o, H' b = some o → b ≠ p → H6 b = some o := fun b o h ne => hB6 _ _ (f5 _ _ (f4 _ _ h)) ne
    have hd6 := up6 _ _ hSc.at_ dSp
    refine ⟨_, rfl, _, rfl, dS, _, rfl, DPut.k (k := Sum.inr so) hd6 (by rw [List.length_map, sizeLine_eq]; omega), ?_⟩
    rw [putK_new _ (valV_nosc nso)]
    have cd : c ≠ dS := hc6.elim (fun h => ne_of h hd6 fun z => nomatch z) fun h => ne_of h hd6 fun z => nomatch z
    have hS7 : ScAt (upd H6 dS (.dK ((S.map fun t => ((Sum.inr t.1 : Key), V.ref t.2.1)) ++ [((Sum.inr so : Key), V.ref c)]))) dS (S ++ [(so, c, ns')]) := by
      refine ⟨by rw [upd_same]; unfold scO; rw [List.map_append]; rfl, fun z hz => ?_⟩
      rcases List.mem_append.mp hz with hz | hz
      · have ne := hSc.ne z hz
        have zp : z.2.1 ≠ p := (hSc.row z hz).elim (strs_ne hPj) fun h => ne_of h hPj.p fun z => nomatch z
        rw [upd_ne ne]
        exact (hSc.row z hz).imp (fun h => up6 _ _ h zp) fun h => up6 _ _ h zp
      · obtain rfl := List.mem_singleton.mp hz
        rw [upd_ne cd]
        exact hc6
    have up7 : ∀ b o, H' b = some o → b ≠ p → b ≠ dS → upd H6 dS (.dK ((S.map fun t => ((Sum.inr t.1 : Key), V.ref t.2.1)) ++ [((Sum.inr so : Key), V.ref c)])) b = some o := fun b o h ne ne2 => by
      rw [upd_ne ne2]
      exact up6 b o h ne
    have hlr7 : upd H6 dS (.dK ((S.map fun t => ((Sum.inr t.1 : Key), V.ref t.2.1)) ++ [((Sum.inr so : Key), V.ref c)])) lr = some (.lst ((rowX r xs so).map V.str)) := by
      rw [upd_ne (ne_of (hB6 _ _ (f5 _ _ hlr) (strs_ne hP4 hlr)) hd6 fun z => nomatch z)]
      exact hB6 _ _ (f5 _ _ hlr) (strs_ne hP4 hlr)
    have hP7 : Pen (upd H6 dS (.dK ((S.map fun t => ((Sum.inr t.1 : Key), V.ref t.2.1)) ++ [((Sum.inr so : Key), V.ref c)]))) p q ns sk gk := ⟨by rw [upd_ne dSp.symm]; exact hP6.p, by rw [upd_ne dSq.symm]; exact hP6.q⟩
    have bt7 : But p H2 (upd H6 dS (.dK ((S.map fun t => ((Sum.inr t.1 : Key), V.ref t.2.1)) ++ [((Sum.inr so : Key), V.ref c)]))) := fun b o h ne => up7 _ _ (bt _ _ h ne) ne (ne_of_none h ndS)
    have hua7 := up7 _ _ hua (strs_ne hPj hua) (ne_of hua hSc.at_ fun z => nomatch z)
    have hfa7 := up7 _ _ hfa (ne_of hfa hPj.p fun z => nomatch z) (ne_of hfa hSc.at_ fun z => nomatch z)
    generalize upd H6 dS (.dK ((S.map fun t => ((Sum.inr t.1 : Key), V.ref t.2.1)) ++ [((Sum.inr so : Key), V.ref c)])) = H7 at hS7 hlr7 hP7 bt7 hua7 hfa7 ⊢
    -- uses_so = ..
    dsimp only
    refine' EvP.st_set (P := lstV ((B ++ offN (rowX r xs so) B).map V.str)) ?u1 ?u2
    case u1 => exact g_usesN (K := K) (σ := [some (.ref p), some (.ref t), some (.int n), some (.ref dS), some (.ref fa), some (.ref ua), some (.str so), some (.ref lr), none, none, none, none, none]) (j := 7) (l := 5) (m := 11) (vs := [11]) rfl hlr7 rfl hua7 (by omega) (by omega) (fun _ => rfl) (fun _ => rfl) (fun _ => rfl)
    rintro v8 H8 f8 ⟨ub', rfl, hub'⟩
    have eS' : (S ++ [(so, c, ns')]).map (·.1) = ss.take (j + 1) := by
      rw [tk, List.map_append, eS]
      rfl
    have hR' : ScRow r xs (S ++ [(so, c, ns')]) := ⟨fun z hz => by
      rcases List.mem_append.mp hz with hz | hz
      · exact hR.mem z hz
      · obtain rfl := List.mem_singleton.mp hz
        exact ⟨mem', len'⟩⟩
    have nB' : (B ++ offN (rowX r xs so) B).Nodup := by
      rw [List.nodup_append]
      refine ⟨nB, (ok.u.nod.filter _).filter _, fun x hx y hy e => ?_⟩
      exact (mem_offN.mp hy).2 (by rw [← e]; exact hx)
    have hB' : ∀ x, x ∈ B ++ offN (rowX r xs so) B ↔ ∃ z ∈ S ++ [(so, c, ns')], x ∈ z.2.2 := fun x => by
      rw [List.mem_append, mem_offN]
      constructor
      · rintro (h | ⟨h, _⟩)
        · obtain ⟨z, hz, m⟩ := (hB x).mp h
          exact ⟨z, List.mem_append_left _ hz, m⟩
        · exact ⟨_, List.mem_append_right _ (List.mem_singleton.mpr rfl), (mem' x).mpr h⟩
      · rintro ⟨z, hz, m⟩
        rcases List.mem_append.mp hz with hz | hz
        · exact .inl ((hB x).mpr ⟨z, hz, m⟩)
        · obtain rfl := List.mem_singleton.mp hz
          by_cases cB : x ∈ B
          · exact .inl cB
          · exact .inr ⟨(mem' x).mp m, cB⟩
    have fin : ∀ (fa' : Addr) (H9 : Hp), Ex H8 H9 → H9 fa' = some (.dT (tents (fnd r xs n (ss.take (j + 1))))) → ∃ (S : Sc) (B : List Str) (fa ua : Addr) (o6 o7 : Option V) (sj gj : Int), ([some (.ref p), some (.ref t), some (.int n), some (.ref dS), some (.ref fa'), some (.ref ub'), some (.str so), some (.ref lr), none, none, none, none, none] : L2.St) = [some (.ref p), some (.ref t), some (.int n), some (.ref dS), some (.ref fa), some (.ref ua), o6, o7, none, none, none, none, none] ∧ Pen H9 p q ns sj gj ∧ sb ≤ sj ∧ sj ≤ sb + ((j + 1 : Nat) : Int) ∧ But p H2 H9 ∧
        ScAt H9 dS S ∧ S.map (·.1) = ss.take (j + 1) ∧ ScRow r xs S ∧ H9 ua = some (.lst (B.map V.str)) ∧ B.Nodup ∧ (∀ x, x ∈ B ↔ ∃ t ∈ S, x ∈ t.2.2) ∧ H9 fa = some (.dT (tents (fnd r xs n (ss.take (j + 1))))) := fun fa' H9 f9 hfa' => by
      have f89 := f8.trans f9
      exact ⟨_, _, _, _, _, _, sk, gk, rfl, ⟨f89 _ _ hP7.p, f89 _ _ hP7.q⟩, by omega, by push_cast; omega, fun b o h ne => f89 _ _ (bt7 _ _ h ne), hS7.ex f89, eS', hR', f9 _ _ hub', nB', hB', hfa'⟩
    -- if worth_so > 0
    refine ⟨_, rfl, n, 0, rfl, rfl, _, rfl, ?_⟩
    by_cases c0 : 0 < n
    · rw [decide_eq_true c0]
      have er : fnd r xs n (ss.take (j + 1)) = fnd r xs n (ss.take j) ++ (rowX r xs so).map fun u => (key2 so u, n) := by
        unfold fnd
        rw [if_pos c0, if_pos c0, tk, fndR_snoc]
      have nod' : ((fnd r xs n (ss.take j) ++ (rowX r xs so).map fun u => (key2 so u, n)).map (·.1)).Nodup := by
        rw [← er]
        unfold fnd
        rw [if_pos c0]
        exact fndR_nod ok.u.nod (ok.s.nod.sublist (List.take_sublist _ _))
      have lF : (fnd r xs n (ss.take j)).length ≤ 100 := by
        unfold fnd
        rw [if_pos c0]
        have := fndR_len (r := r) (w := n) X6 (ss.take j)
        rw [List.length_take] at this
        omega
      have hfa8 := f8 _ _ hfa7
      have nodF : ((fnd r xs n (ss.take j)).map (·.1)).Nodup := by
        unfold fnd
        rw [if_pos c0]
        exact fndR_nod ok.u.nod (ok.s.nod.sublist (List.take_sublist _ _))
      have gA := comp_pairsV (σ := [some (.ref p), some (.ref t), some (.int n), some (.ref dS), some (.ref fa), some (.ref ub'), some (.str so), some (.ref lr), none, none, none, none, none]) (H := H8) (vs := [12]) (i := 4) (g := gName 12) (tt := tYes) (te := tTup (tCons (tVar 12) (tCons (tDGet (tVar 4) (tVar 12)) tNil)))
        (fun _ q => [some (.ref p), some (.ref t), some (.int n), some (.ref dS), some (.ref fa), some (.ref ub'), some (.str so), some (.ref lr), none, none, none, none, some (.ref q)]) (fun _ => true) (fun z => (z.1, z.2)) rfl hfa8 (by omega) (fun _ _ => rfl) (fun z mz q H1 R _ h => h) (fun z mz q H1 bd hq Q k => k H1 (Ex.refl _)) (fun z mz _ q' H1 bd hq Q k => by
          obtain ⟨od, fz⟩ := bd.fz
          refine ⟨_, rfl, _, rfl, _, rfl, fa, .int z.2, rfl, .inr ⟨tents (fnd r xs n (ss.take j)), z.1, q', .inr ⟨od, fz⟩, rfl, hq, ?_⟩, by show 2 ≤ sizeLine; decide, fun c nc => k _ _ (Ex.new nc) ⟨c, q', rfl, upd_same, Ex.new nc _ _ hq⟩⟩
          rw [valV_tents, (look_mem nodF).mpr (show (z.1, z.2) ∈ _ from mz)]
          rfl)
      rw [List.filter_eq_self.mpr (fun _ _ => rfl), show ((fnd r xs n (ss.take j)).map fun z => (z.1, z.2)) = fnd r xs n (ss.take j) from List.map_id _] at gA
      have gB := g_newP (K := K) (σ := [some (.ref p), some (.ref t), some (.int n), some (.ref dS), some (.ref fa), some (.ref ub'), some (.str so), some (.ref lr), none, none, none, none, none]) (H := H8) (vs := [11]) (j := 7) (m := 11) (l := 6) (w := 2) rfl (f8 _ _ hlr7) (by omega) (fun _ => rfl) (fun _ => rfl) (fun _ => rfl) (fun _ => rfl)
      refine (g_dictT (K := K) (g_catK gA gB (by rw [List.length_map]; omega)) nod') H8 (Ex.refl _) _ fun v9 H9 f9 ⟨fa', ev, hfa', _⟩ => ?_
      subst ev
      rw [← er] at hfa'
      exact fin fa' H9 f9 hfa'
    · rw [decide_eq_false c0]
      refine iteF ?_
      have e0 : ∀ l, fnd r xs n l = [] := fun l => by
        unfold fnd
        exact if_neg c0
      rw [e0] at hfa7
      exact fin fa H8 (Ex.refl _) (by rw [e0]; exact f8 _ _ hfa7)
  · rintro σ' H' ⟨S, B, fa, ua, o6, o7, sj, gj, rfl, hPj, c1, c2, bt, hSc, eS, hR, hua, nB, hB, hfa⟩
    rw [List.length_map, List.take_length] at eS hfa
    have okS := sc_ok ok eS hR
    have nBk := uses_few ok hR nB hB
    have fOk := fnd_ok ok eS hR hB n1
    have fWk := fnd_wk ok eS hR n0
    have hr0 := rowsAt_of hSc
    have pa5 := pa2.but hP2 bt
    obtain ⟨t', a', b', d', et, k1, k2, k3, k4⟩ := pa5.ex
    cases et
    have oks : ∀ t ∈ S, PyData.strOk t.1 = true ∧ ∀ x ∈ t.2.2, PyData.strOk x = true := fun t ht => ⟨ok_str (okS.nm t ht), fun x hx => ok_str ((okS.row t ht).1 x hx)⟩
    -- kept = ..
    refine st_kept (K := K) (H0 := H') rfl (by show 6 < 13; decide) hSc okS.nod okS.few hr0 fun v5 H5 e5 hv5 => ?_
    have hS5 := hSc.ex e5
    -- made, one = ..
    refine (g_flat2 (K := K) (C := C) (σ := [some (.ref p), some (.ref t), some (.int n), some (.ref dS), some (.ref fa), some (.ref ua), o6, o7, some v5, none, none, none, none]) rfl rfl hS5 okS n0 nBk hB) H5 (Ex.refl _) _ fun v6 H6 e6 hv6 => ?_
    refine (g_flatK (K := K) (C := C) (σ := [some (.ref p), some (.ref t), some (.int n), some (.ref dS), some (.ref fa), some (.ref ua), o6, o7, some v5, none, none, none, none]) rfl rfl hS5 okS n0 nBk hB) H6 e6 _ fun v7 H7 e7 hv7 => ?_
    refine ⟨_, _, rfl, ?_⟩
    rw [eS] at hv6 hv7
    have hv6' := (tabW C ss B (flatG S n)).mono _ _ _ e7 hv6
    have hS7 := hS5.ex (e6.trans e7)
    have E7 := e5.trans (e6.trans e7)
    have hv5' := (keptL H' S).mono _ _ _ (e6.trans e7) hv5
    have lt : ∀ k, wk (fnd r xs n ss) k < 10 ^ 70 := fun k => Int.lt_trans (wk_nn fOk k).2 (by decide)
    dsimp only [List.set]
    -- if not _law_is(..) or made != one
    refine Cm.st_ifF (t_or (t_not (b := true) (t_val (g_is5 ok.s nBk (EvP.varP rfl hv6') ?_ fOk.good fWk lt))) (t_test (g_neT ok.s nBk (EvP.varP rfl hv6') (EvP.varP rfl hv7) fun _ => rfl))) fun H8 e8 => ?_
    · refine Fk.Gives.imp (EvP.tuple (EvP.cons (g_ixP (K := K) (i := 1) rfl (E7 _ _ k1) (atI_nat (xs := [V.ref a', .ref b', .ref d']) (j := 0) rfl) (E7 _ _ k2)) (EvP.cons (EvP.varP (P := lstV (B.map V.str)) rfl ⟨ua, rfl, E7 _ _ hua⟩) (EvP.cons (EvP.varP (P := ⟨fun v H => ∃ a, v = .ref a ∧ H a = some (.dT (tents (fnd r xs n ss))), fun _ _ _ e ⟨a, h1, h2⟩ => ⟨a, h1, e _ _ h2⟩⟩) rfl ⟨fa, rfl, E7 _ _ hfa⟩) EvP.nil))) (by show 3 ≤ 1000; decide)) fun v H ⟨p', vs, ev, hp, hs⟩ => ?_
      cases hs with
      | cons c1 hs => cases hs with
        | cons c2 hs => cases hs with
          | cons c3 hs =>
            cases hs
            obtain ⟨p1, rfl, q1⟩ := c1
            obtain ⟨p2, rfl, q2⟩ := c2
            obtain ⟨p3, rfl, q3⟩ := c3
            exact ⟨p', p1, p2, p3, ev, hp, q1, q2, q3⟩
    -- if .. != kept
    have hS8 := hS7.ex e8
    refine Cm.st_ifF (t_kept (K := K) (H0 := H') rfl ⟨v5, rfl, (keptL H' S).mono _ _ _ e8 hv5'⟩ (by show 6 < 13; decide) hS8 okS.nod okS.few (hr0.ex (E7.trans e8)) oks) fun H9 e9 => ?_
    have E9 := E7.trans (e8.trans e9)
    have fin : ∀ H10, Ex H9 H10 → Q (.bl true) H10 := fun H10 e10 => k sj gj H10 (by omega) (by have := ok.s.few; rw [List.length_map] at c2; omega) ⟨(E9.trans e10) _ _ hPj.p, (E9.trans e10) _ _ hPj.q⟩ fun c o hc ne => (E9.trans e10) _ _ (bt _ _ (b02 _ _ hc ne) ne)
    -- return worth_so != 1 or ..
    refine ⟨_, rfl, rfl, _, rfl, ?_⟩
    by_cases c1 : n = 1
    · subst c1
      rw [show (!decide (V.int 1 = V.int 1)) = false from rfl]
      refine iteF ?_
      refine (g_eqT ok.s nBk (by rw [← eS]; exact g_flat1 (K := K) rfl (hS8.ex e9) okS nBk hB) (EvP.varP rfl ((tabW C ss B (flatG S 1)).mono _ _ _ (e8.trans e9) hv6')) fun _ => rfl) H9 (Ex.refl _) _ fun v H10 e10 ev => ?_
      rw [show v = V.bl true from ev]
      exact fin H10 e10
    · rw [show (!decide (V.int n = V.int 1)) = true by rw [decide_eq_false fun z => c1 (V.int.inj z)]; rfl]
      exact fin H9 (Ex.refl _)
end
end K06

set_option Elab.async false
set_option linter.all false
set_option maxRecDepth 100000
set_option maxHeartbeats 4000000
/-! a != b of two lists that are equal, at every depth (lists and dicts). -/
namespace PySem.SeqAt
open AutoSeq1 (wpAny_loadPart')
open MeetsSeq MeetsSeq2 MeetsSeq3 SeqRoads2
section
variable {prog : Program} {w : World}
/-- two lists whose items are equal one by one, as the walk of != finds them -/
structure Twin (prog : Program) (w : World) (A : Around) (s : Shared) (l b : Addr) (xs ys : Array Value) : Prop where
  left : s.heap.IsList l xs
  right : s.heap.IsList b ys
  len : xs.size = ys.size
  eq : ∀ j (h1 : j < xs.size) (h2 : j < ys.size), EqP prog w A.in1 s xs[j] ys[j] true
theorem ne_walk {l b : Addr} {xs ys : Array Value} (m : Nat) : ∀ i : Nat, xs.size - i = m → MeetsIn prog w (Builtin.«list.__eq__.loop» ⟨[.ref l, .ref b, rawInt i, rawInt 3], []⟩)
    (fun A R s => Twin prog w A s l b xs ys ∧ R (.ok (.ret (.bool false))) s) := by
  induction m with
  | zero =>
    intro i hm A R s ⟨t, h⟩
    obtain ⟨hh, gg, dd0, tt0, oo⟩ := s -- the parts
    obtain ⟨⟨cls, dd, data, sl⟩, ho, hc, n, hd⟩ := id t.left
    obtain ⟨⟨cls2, dd2, data2, sl2⟩, ho2, hc2, n2, hd2⟩ := id t.right
    simp only at hc hd hc2 hd2
    subst hc hd hc2 hd2
    have z1 : xs[((i : Nat) : Int).toNat]? = none := by simp; omega
    have z2 : ys[((i : Nat) : Int).toNat]? = none := by have := t.len; simp; omega
    wp_walk using wpAny_loadPart' ho, wpAny_loadPart' ho2
    rw [z1, z2]
    wp_walk using wpAny_loadPart' ho, wpAny_loadPart' ho2
    show R (.ok (.ret (.bool (xs.size != ys.size)))) _
    rw [t.len]
    simpa using h
  | succ m ih =>
    intro i hm A R s ⟨t, h⟩
    obtain ⟨hh, gg, dd0, tt0, oo⟩ := s -- the parts
    obtain ⟨⟨cls, dd, data, sl⟩, ho, hc, n, hd⟩ := id t.left
    obtain ⟨⟨cls2, dd2, data2, sl2⟩, ho2, hc2, n2, hd2⟩ := id t.right
    simp only at hc hd hc2 hd2
    subst hc hd hc2 hd2
    have i1 : i < xs.size := by omega
    have i2 : i < ys.size := by have := t.len; omega
    have z1 : xs[((i : Nat) : Int).toNat]? = some xs[i] := by simp [i1]
    have z2 : ys[((i : Nat) : Int).toNat]? = some ys[i] := by simp [i2]
    wp_walk using wpAny_loadPart' ho, wpAny_loadPart' ho2
    rw [z1, z2]
    refine wpAny_bind (t.eq i i1 i2 _ _ ?_)
    wp_walk
    rw [show ((i : Int) + 1) = ((i + 1 : Nat) : Int) by push_cast; rfl]
    refine ⟨plainId_quiet plain_eq_loop _, codeAny_builtin entry_eq_loop ?_⟩ -- one on
    rw [Around.under_plainId plain_eq_loop _] -- the same ids
    exact ih (i + 1) (by omega) A R _ ⟨t, h⟩
theorem ne_call {l b : Addr} {xs ys : Array Value} : MeetsIn prog w (Builtin.«list.__ne__» ⟨[.ref l, .ref b], []⟩) (fun A R s => Twin prog w A s l b xs ys ∧ R (.ok (.ret (.bool false))) s) := by
  intro A R s ⟨t, h⟩
  obtain ⟨hh, gg, dd0, tt0, oo⟩ := s -- the parts
  obtain ⟨⟨cls, dd, data, sl⟩, ho, hc, n, hd⟩ := id t.left
  obtain ⟨⟨cls2, dd2, data2, sl2⟩, ho2, hc2, n2, hd2⟩ := id t.right
  simp only at hc hd hc2 hd2
  subst hc hd hc2 hd2
  have both := AutoSeq1.sub_list_list; have same : ¬ (xs.size != ys.size) = true := by simp [t.len]
  wp_walk using wpAny_loadPart' ho, wpAny_loadPart' ho2
  refine ⟨plainId_quiet plain_eq_loop _, codeAny_builtin entry_eq_loop ?_⟩ -- from 0
  rw [Around.under_plainId plain_eq_loop _] -- the same ids
  exact ne_walk _ 0 rfl A R _ ⟨t, h⟩
theorem ne_twin {A : Around} {s : Shared} {l b : Addr} {xs ys : Array Value} (t : Twin prog w A s l b xs ys) (hu : A.units < cLine) (E Q : Value → Shared → Prop) (h : Q (.bool false) s) : wpAny (model prog w) A (richCompare .NotEq (.ref l) (.ref b)) Q E s := by
  have ta : s.TypeIs (.ref l) "list" := by
    obtain ⟨o, ho, hc, _⟩ := id t.left
    exact ⟨_, ho, hc⟩
  have tb : s.TypeIs (.ref b) "list" := by
    obtain ⟨o, ho, hc, _⟩ := id t.right
    exact ⟨_, ho, hc⟩
  exact wpAny_richCompare_same_room (op := .NotEq) ta tb F.slot_list_ne (call_meetsIn F.slot_list_ne ta F.entry_list_ne (F.args_list_ne_2 _ _) ne_call
    ⟨t, show Value.bool false ≠ Value.notImplemented ∧ Q (.bool false) s from ⟨(fun x => nomatch x), h⟩⟩) hu
end
end PySem.SeqAt
namespace K06
open PySem PySem.Spec PyProof.Rows L2 Cm
section
variable {X : Cx}
/-- a != b, two lists that are equal -/
def rNeV (K : PySem.W.Frag) : R2 := fun x y H Q => ∃ n a b xs ys, n ≤ 60 ∧ x = .ref a ∧ y = .ref b ∧ SqL K H a xs ∧ SqL K H b ys ∧ Paired (EqV K H n) xs ys ∧ Q (.bl false) H
theorem op_neV (hu : X.A.units + 64 < cLine) : OpR X (compareOp .NotEq) (rNeV X.K) := by
  intro pins s σ H x y v u Q I rx ry h
  obtain ⟨n, a, b, xs, ys, hn, rfl, rfl, ha, hb, hp, q⟩ := h
  obtain rfl : v = Value.ref a := rx
  obtain rfl : u = Value.ref b := ry
  obtain ⟨us, r1, p1, _⟩ := I.list ha
  obtain ⟨ws, r2, p2, _⟩ := I.list hb
  have hsz : us.toArray.size = ws.toArray.size := by
    rw [List.size_toArray, List.size_toArray, ← r1.length, ← r2.length]
    exact Paired.length hp
  refine SeqAt.ne_twin ⟨p1.isList, p2.isList, hsz, fun j h1 h2 => ?_⟩ (by omega) _ _ ⟨.bl false, H, I, rfl, q⟩
  have k := items_run (eqV_run I n X.A.in1 (by show X.A.units + 1 + n < cLine; omega)) hp r1 r2 j (by simpa using h1) (by simpa using h2)
  simpa using k
end
end K06

set_option Elab.async false
set_option linter.all false
set_option maxRecDepth 100000
set_option maxHeartbeats 4000000
/-! A dict of names with drawn numbers. -/
namespace K06
open PySem PySem.Spec PyProof.Rows L2 Cm
open DtE (TRow tents lookT valV_tents)
open Tb (key2 PairK wk TblAt TblC Tab TabAt rowsO tmeth firsts spTItem spTEq)
open Fk (NameV nameB srt srt_perm ents)
open EvP (Ex All2 is Gives GivesA)
theorem valV_entsNo {r : Fk.Row} {s : Str} (h : s ∉ r.map (·.1)) : valV (ents r) (Sum.inr s) = none := by
  have no : ¬ ((ents r).any fun kv => decide (kv.1 = Sum.inr s)) = true := by
    intro y
    obtain ⟨p, hp, ep⟩ := List.any_eq_true.mp y
    obtain ⟨m, hm, rfl⟩ := List.mem_map.mp hp
    exact h (List.mem_map.mpr ⟨m, hm, Sum.inr.inj (of_decide_eq_true ep)⟩)
  rw [valV_any] at no
  simpa using no
theorem mergeK_ents : ∀ {r acc : Fk.Row}, ((acc ++ r).map (·.1)).Nodup → mergeK (ents acc) (ents r) = ents (acc ++ r)
  | [], acc, _ => by
    rw [List.append_nil]
    rfl
  | e :: r, acc, n => by
    have no : e.1 ∉ acc.map (·.1) := by
      intro m
      rw [List.map_append, List.nodup_append] at n
      exact n.2.2 _ m _ (List.mem_map.mpr ⟨e, .head _, rfl⟩) rfl
    show mergeK (putK (ents acc) (Sum.inr e.1) (.int e.2)) (ents r) = _
    rw [putK_new _ (valV_entsNo no)]
    have ea : ents acc ++ [((Sum.inr e.1 : Key), V.int e.2)] = ents (acc ++ [e]) := by
      unfold ents
      rw [List.map_append]
      rfl
    rw [ea, mergeK_ents (by rw [List.append_assoc]; exact n), List.append_assoc]
    rfl
theorem paired_snoc {α β : Type} {F : α → β → Prop} {a : α} {b : β} : ∀ {xs : List α} {ys : List β}, Paired F xs ys → F a b → Paired F (xs ++ [a]) (ys ++ [b])
  | _, _, .nil, h => .cons h .nil
  | _, _, .cons x r, h => .cons x (paired_snoc r h)
theorem paired_ents {K : PySem.W.Frag} {H : Hp} : ∀ {ps : List Addr} {r : Fk.Row}, Paired (fun p (e : Str × Int) => H p = some (.tup [.str e.1, .int e.2])) ps r → Paired (fun p (kv : Key × V) => SqT K H p [kV kv.1, kv.2]) ps (ents r)
  | _, _, .nil => .nil
  | _, _, .cons h r => .cons (SqT.of h) (paired_ents r)
abbrev rDP (K : PySem.W.Frag) : List V → Hp → VK → Prop := fun xs H Q => ∃ (a : Addr) (ps : List Addr) (kvs : List (Key × V)), xs = [.ref a] ∧ SqL K H a (ps.map V.ref) ∧ Paired (fun p kv => SqT K H p [kV kv.1, kv.2]) ps kvs ∧
  ∀ p, H p = none → Q (.ref p) (upd H p (.dK (mergeK [] kvs)))
abbrev tePk (i : Nat) (ls : TE) : TE := tTup (tCons (tVar i) (tCons (tCall spPick [] E0 (tCons (tVar 0) (tCons ls tNil))) tNil))
section
variable {K : PySem.W.Frag} {σ : L2.St} {H : Hp} {p q a : Addr} {ns : List Int} {s g : Int} {i : Nat} {ls ti : TE} {L : List Int} {xs : List Str} {Q : VK}
theorem go_drawD (h0 : σ[0]? = some (some (.ref p))) (i0 : i ≠ 0) (li : i < σ.length) (hi : ∀ R : VK, R (.ref a) H → ti σ H R) (hls : ∀ σ H (R : VK), (∀ l, H l = none → R (.ref l) (upd H l (.lst (L.map V.int)))) → ls σ H R)
    (ha : H a = some (.lst (xs.map V.str))) (hP : Pen H p q ns s g) (hl : ns.length ≤ 63) (s0 : 0 ≤ s) (s1 : s < 95000) (few : xs.length ≤ 6) (nX : xs.Nodup) (L0 : 0 < L.length) (L1 : L.length < 100000)
    (k : ∀ d (r : Fk.Row) sd gd H', H' d = some (.dK (ents r)) → r.map (·.1) = xs → (∀ e ∈ r, e.2 ∈ L) → s ≤ sd → sd ≤ s + 6 → Pen H' p q ns sd gd → But p H H' → (∀ b o, H b = some o → b ≠ d) → Q (.ref d) H') :
    tCB (rDP K) (tCons (tLc (iList K ti) (gName i) tYes (tePk i ls) [i]) tNil) σ H Q := by
  refine hi _ ⟨a, rfl, ⟨_, SqL.of ha⟩, fun D hD => ?_⟩
  have pD : p ≠ D := ne_of_none hP.p hD
  have qD : q ≠ D := ne_of_none hP.q hD
  refine lc_list (xs := xs.map V.str) (fun j H' => ∃ (ps : List Addr) (r : Fk.Row) (sj gj : Int), H' D = some (.lst (ps.map V.ref)) ∧ Paired (fun p (e : Str × Int) => H' p = some (.tup [.str e.1, .int e.2])) ps r ∧ r.map (·.1) = xs.take j ∧ (∀ e ∈ r, e.2 ∈ L) ∧ s ≤ sj ∧ sj ≤ s + (j : Int) ∧ Pen H' p q ns sj gj ∧ But p H H') ?_ ?_ ?_ ?_
  · exact ⟨[], [], s, g, upd_same, .nil, by rw [List.take_zero]; rfl, (fun e h => nomatch h), by omega, by omega, ⟨by rw [upd_ne pD]; exact hP.p, by rw [upd_ne qD]; exact hP.q⟩, fun b o hb _ => by rw [upd_ne (ne_of_none hb hD)]; exact hb⟩
  · rintro j H' _ ⟨ps, r, sj, gj, hD', hp, er, hL, c1, c2, hP', bt⟩
    exact SqL.of (bt _ _ ha (strs_ne hP ha))
  · rintro j x H' hj ⟨ps, r, sj, gj, hD', hp, er, hL, c1, c2, hP', bt⟩
    rw [List.getElem?_map] at hj
    obtain ⟨so, hso, rfl⟩ := Option.map_eq_some_iff.mp hj
    have jl : j < xs.length := (List.getElem?_eq_some_iff.mp hso).1
    have tk : xs.take (j + 1) = xs.take j ++ [so] := by
      rw [List.take_add_one, hso]
      rfl
    have lr : ps.length ≤ 6 := by
      rw [Paired.length hp]
      have := congrArg List.length er
      rw [List.length_map, List.length_take] at this
      omega
    have lw : (wipe σ [i]).length = σ.length := wipe_length σ [i]
    have gi : ((wipe σ [i]).set i (some (V.str so)))[i]? = some (some (.str so)) := by
      rw [List.getElem?_set_self (by rw [lw]; exact li)]
    have g0 : ((wipe σ [i]).set i (some (V.str so)))[0]? = some (some (.ref p)) := by
      rw [List.getElem?_set_ne i0]
      show ((wipe σ []).set i none)[0]? = _
      rw [List.getElem?_set_ne i0]
      exact h0
    refine ⟨by
      show (((wipe σ []).set i none).set i _).set i none = (wipe σ []).set i none
      rw [List.set_set, List.set_set], ?_⟩
    refine ⟨_, gi, _, g0, hls _ _ _ fun l nl => ?_⟩
    have lp : l ≠ p := (ne_of_none hP'.p nl).symm
    refine ⟨p, q, ns, sj, gj, l, L.map V.int, rfl, Pen.new nl hP', hl, by omega, by omega, upd_same, lp, by rw [List.length_map]; exact L0, by rw [List.length_map]; exact L1, fun v s' g' H3 hv b1 b2 hP3 hB3 => ?_⟩
    obtain ⟨z, hz, rfl⟩ := List.mem_map.mp hv
    refine ⟨by show 2 ≤ sizeLine; decide, fun c nc => ?_⟩
    have up : ∀ b o, H' b = some o → b ≠ p → upd H3 c (.tup [.str so, .int z]) b = some o := fun b o h ne => Ex.new nc _ _ (hB3 _ _ (Ex.new nl _ _ h) ne)
    have cs : upd H3 c (.tup [.str so, .int z]) c = some (.tup [.str so, .int z]) := upd_same
    have hP4 : Pen (upd H3 c (.tup [.str so, .int z])) p q ns s' g' := ⟨Ex.new nc _ _ hP3.p, Ex.new nc _ _ hP3.q⟩
    generalize upd H3 c (.tup [.str so, .int z]) = H4 at up cs hP4 ⊢
    have hD4 := up _ _ hD' pD.symm
    have low : ∀ b ys, H4 b = some (.tup ys) → upd H4 D (.lst (ps.map V.ref ++ [.ref c])) b = some (.tup ys) := fun b ys h => by
      rw [upd_ne (ne_of h hD4 fun z => nomatch z)]
      exact h
    refine ⟨_, hD4, by rw [List.length_map, sizeLine_eq]; omega, ps ++ [c], r ++ [(so, z)], s', g', by rw [upd_same, List.map_append]; rfl, ?_, by rw [List.map_append, er, tk]; rfl, ?_, by omega, by push_cast; omega, ⟨by rw [upd_ne pD]; exact hP4.p, by rw [upd_ne qD]; exact hP4.q⟩, fun b o hb ne => by rw [upd_ne (ne_of_none hb hD)]; exact up _ _ (bt _ _ hb ne) ne⟩
    · refine paired_snoc (Paired.mapP hp fun b e h => low _ _ (up _ _ h (ne_of h hP'.p fun z => nomatch z))) (low _ _ cs)
    · intro e he
      rcases List.mem_append.mp he with he | he
      · exact hL e he
      · rw [List.mem_singleton.mp he]
        exact hz
  · rintro H' ⟨ps, r, sj, gj, hD', hp, er, hL, c1, c2, hP', bt⟩
    rw [List.length_map, List.take_length] at er
    rw [List.length_map] at c2
    refine ⟨D, ps, ents r, rfl, SqL.of hD', paired_ents hp, fun d nd => ?_⟩
    rw [show mergeK [] (ents r) = ents r from mergeK_ents (acc := []) (by rw [List.nil_append, er]; exact nX)]
    have en := Ex.new (o := .dK (ents r)) nd
    have dp : d ≠ p := (ne_of_none hP'.p nd).symm
    refine k d r sj gj _ upd_same er hL c1 (by omega) ⟨en _ _ hP'.p, en _ _ hP'.q⟩ (fun b o hb ne => en _ _ (bt _ _ hb ne)) fun b o hb => ?_
    by_cases c : b = p
    · rw [c]
      exact dp.symm
    · exact ne_of_none (bt _ _ hb c) nd
end
end K06

set_option Elab.async false
set_option linter.all false
set_option maxRecDepth 100000
set_option maxHeartbeats 4000000
/-! The products of two dicts of rates. -/
namespace K06
open PySem PySem.Spec PyProof.Rows L2 Cm
open DtE (TRow tents lookT valV_tents)
open Tb (key2 PairK wk TblAt TblC Tab TabAt rowsO tmeth firsts spTItem spTEq)
open Fk (NameV nameB srt srt_perm ents)
open EvP (Ex All2 is Gives GivesA)
def prodR (e : Str × Int) (r2 : Fk.Row) : TRow := (r2.filter fun f => decide (0 < e.2 * f.2)).map fun f => (key2 e.1 f.1, e.2 * f.2)
def prodL (r1 r2 : Fk.Row) : TRow := r1.flatMap fun e => prodR e r2
theorem mem_prodL {r1 r2 : Fk.Row} {z : List Key × Int} : z ∈ prodL r1 r2 ↔ ∃ e ∈ r1, ∃ f ∈ r2, 0 < e.2 * f.2 ∧ z = (key2 e.1 f.1, e.2 * f.2) := by
  unfold prodL prodR
  rw [List.mem_flatMap]
  constructor
  · rintro ⟨e, he, h⟩
    obtain ⟨f, hf, ez⟩ := List.mem_map.mp h
    obtain ⟨hf, pf⟩ := List.mem_filter.mp hf
    exact ⟨e, he, f, hf, of_decide_eq_true pf, ez.symm⟩
  · rintro ⟨e, he, f, hf, pf, ez⟩
    exact ⟨e, he, List.mem_map.mpr ⟨f, List.mem_filter.mpr ⟨hf, decide_eq_true pf⟩, ez.symm⟩⟩
theorem prodL_nod {r2 : Fk.Row} (n2 : (r2.map (·.1)).Nodup) : ∀ {r1 : Fk.Row}, (r1.map (·.1)).Nodup → ((prodL r1 r2).map (·.1)).Nodup
  | [], _ => List.nodup_nil
  | e :: r1, n => by
    rw [List.map_cons, List.nodup_cons] at n
    have ee : prodL (e :: r1) r2 = prodR e r2 ++ prodL r1 r2 := rfl
    rw [ee, List.map_append, List.nodup_append]
    refine ⟨?_, prodL_nod n2 n.2, fun x hx y hy q => ?_⟩
    · have em : (prodR e r2).map (·.1) = ((r2.filter fun f => decide (0 < e.2 * f.2)).map (·.1)).map (key2 e.1) := by
        unfold prodR
        rw [List.map_map, List.map_map]
        rfl
      rw [em]
      have sub : ((r2.filter fun f => decide (0 < e.2 * f.2)).map (·.1)).Sublist (r2.map (·.1)) := List.filter_sublist.map _
      exact (n2.sublist sub).map _ fun u v h q => h (Tb.key2_inj q).2
    · obtain ⟨z, hz, rfl⟩ := List.mem_map.mp hx
      unfold prodR at hz
      obtain ⟨f, hf, rfl⟩ := List.mem_map.mp hz
      obtain ⟨z', hz', rfl⟩ := List.mem_map.mp hy
      obtain ⟨e', he', f', hf', _, rfl⟩ := mem_prodL.mp hz'
      have := (Tb.key2_inj (show key2 e.1 f.1 = key2 e'.1 f'.1 from q)).1
      exact n.1 (by rw [this]; exact List.mem_map.mpr ⟨e', he', rfl⟩)
theorem prodL_len {r2 : Fk.Row} (h : r2.length ≤ 6) : ∀ r1 : Fk.Row, (prodL r1 r2).length ≤ 6 * r1.length
  | [] => Nat.zero_le _
  | e :: r1 => by
    have ee : prodL (e :: r1) r2 = prodR e r2 ++ prodL r1 r2 := rfl
    have := prodL_len h r1
    have : (prodR e r2).length ≤ r2.length := by
      unfold prodR
      rw [List.length_map]
      exact List.length_filter_le _ _
    rw [ee, List.length_append, List.length_cons]
    omega
theorem prodL_snoc (r1 r2 : Fk.Row) (e : Str × Int) : prodL (r1 ++ [e]) r2 = prodL r1 r2 ++ prodR e r2 := by
  unfold prodL
  rw [List.flatMap_append]
  simp
theorem prodR_snoc (e : Str × Int) (r2 : Fk.Row) (f : Str × Int) : prodR e (r2 ++ [f]) = prodR e r2 ++ if 0 < e.2 * f.2 then [(key2 e.1 f.1, e.2 * f.2)] else [] := by
  unfold prodR
  rw [List.filter_append, List.map_append]
  by_cases c : 0 < e.2 * f.2
  · rw [if_pos c, List.filter_cons, decide_eq_true c]
    rfl
  · rw [if_neg c, List.filter_cons, decide_eq_false c]
    rfl
theorem prod_sub {r1 r2 : Fk.Row} {n m : Nat} {e : Str × Int} (h : r1[n]? = some e) : (prodL (r1.take n) r2 ++ prodR e (r2.take m)).Sublist (prodL r1 r2) := by
  have tk : r1.take (n + 1) = r1.take n ++ [e] := by
    rw [List.take_add_one, h]
    rfl
  have e1 : prodL r1 r2 = prodL (r1.take (n + 1)) r2 ++ prodL (r1.drop (n + 1)) r2 := by
    unfold prodL
    rw [← List.flatMap_append, List.take_append_drop]
  rw [e1, tk, prodL_snoc]
  refine List.Sublist.trans ?_ (List.sublist_append_left _ _)
  refine List.Sublist.append (List.Sublist.refl _) ?_
  unfold prodR
  exact ((List.take_sublist m r2).filter _).map _
section
variable {r1 r2 : Fk.Row} {ss xs : List Str}
theorem prodL_ok (e1 : r1.map (·.1) = ss) (e2 : r2.map (·.1) = xs) (n1 : ss.Nodup) (n2 : xs.Nodup) (v1 : ∀ e ∈ r1, 0 ≤ e.2 ∧ e.2 ≤ 10 ^ 15) (v2 : ∀ e ∈ r2, 0 ≤ e.2 ∧ e.2 ≤ 10 ^ 14) : WorthsOk ss xs (prodL r1 r2) where
  nod := prodL_nod (by rw [e2]; exact n2) (by rw [e1]; exact n1)
  key := fun t ht => by
    obtain ⟨e, he, f, hf, _, rfl⟩ := mem_prodL.mp ht
    exact ⟨e.1, by rw [← e1]; exact List.mem_map.mpr ⟨e, he, rfl⟩, f.1, by rw [← e2]; exact List.mem_map.mpr ⟨f, hf, rfl⟩, rfl⟩
  pos := fun t ht => by
    obtain ⟨e, he, f, hf, p, rfl⟩ := mem_prodL.mp ht
    refine ⟨p, ?_⟩
    have a1 := Int.mul_le_mul_of_nonneg_right (v1 e he).2 (v2 f hf).1
    have a2 := Int.mul_le_mul_of_nonneg_left (v2 f hf).2 (show (0 : Int) ≤ 10 ^ 15 by decide)
    exact Int.lt_of_le_of_lt (Int.le_trans a1 a2) (by decide)
theorem prodL_wk (n1 : (r1.map (·.1)).Nodup) (n2 : (r2.map (·.1)).Nodup) (v1 : ∀ e ∈ r1, 0 ≤ e.2) (v2 : ∀ e ∈ r2, 0 ≤ e.2) (k : List Key) : prodG r1 r2 k = wk (prodL r1 r2) k := by
  have nod := prodL_nod n2 n1
  by_cases c : ∃ e ∈ r1, ∃ f ∈ r2, k = key2 e.1 f.1
  · obtain ⟨e, he, f, hf, rfl⟩ := c
    have g : prodG r1 r2 (key2 e.1 f.1) = e.2 * f.2 := by
      show rowVal r1 e.1 * rowVal r2 f.1 = _
      rw [rowVal_in n1 he, rowVal_in n2 hf]
    rw [g]
    by_cases p : 0 < e.2 * f.2
    · have m : (key2 e.1 f.1, e.2 * f.2) ∈ prodL r1 r2 := mem_prodL.mpr ⟨e, he, f, hf, p, rfl⟩
      unfold wk
      rw [(look_mem nod).mpr m]
      rfl
    · have z : e.2 * f.2 = 0 := by
        have := Int.mul_nonneg (v1 e he) (v2 f hf)
        omega
      have l : wk (prodL r1 r2) (key2 e.1 f.1) = 0 := by
        unfold wk
        cases q : lookT (prodL r1 r2) (key2 e.1 f.1) with
        | none => rfl
        | some v =>
          obtain ⟨e', he', f', hf', p', ez⟩ := mem_prodL.mp ((look_mem nod).mp q)
          obtain ⟨k1, k2⟩ := Prod.mk.inj ez
          obtain ⟨q1, q2⟩ := Tb.key2_inj k1
          have a1 := rowVal_in n1 he'
          have a2 := rowVal_in n2 hf'
          rw [← q1, rowVal_in n1 he] at a1
          rw [← q2, rowVal_in n2 hf] at a2
          rw [← a1, ← a2] at p'
          exact absurd p' p
      rw [l, z]
  · have l : wk (prodL r1 r2) k = 0 := by
      unfold wk
      cases q : lookT (prodL r1 r2) k with
      | none => rfl
      | some v =>
        obtain ⟨e, he, f, hf, _, ez⟩ := mem_prodL.mp ((look_mem nod).mp q)
        exact absurd ⟨e, he, f, hf, (Prod.mk.inj ez).1⟩ c
    rw [l]
    refine prodG_out r1 r2 k fun ⟨a, ha, x, hx, ek⟩ => c ?_
    obtain ⟨e, he, rfl⟩ := List.mem_map.mp ha
    obtain ⟨f, hf, rfl⟩ := List.mem_map.mp hx
    exact ⟨e, he, f, hf, ek⟩
end
theorem ents_get {r : Fk.Row} {n : Nat} {k : Key} {v : V} (h : (ents r)[n]? = some (k, v)) : ∃ e, r[n]? = some e ∧ k = Sum.inr e.1 := by
  unfold ents at h
  rw [List.getElem?_map] at h
  obtain ⟨e, he, q⟩ := Option.map_eq_some_iff.mp h
  exact ⟨e, he, (Prod.mk.inj q).1.symm⟩
theorem valV_entsIn {r : Fk.Row} (nod : (r.map (·.1)).Nodup) {e : Str × Int} (he : e ∈ r) : valV (ents r) (Sum.inr e.1) = some (.int e.2) := by
  rw [valV_ents (List.mem_map.mpr ⟨e, he, rfl⟩), rowVal_in nod he]
end K06

set_option Elab.async false
set_option linter.all false
set_option maxRecDepth 100000
set_option maxHeartbeats 4000000
/-! The two loops over the rates. -/
namespace K06
open PySem PySem.Spec PyProof.Rows L2 Cm
open DtE (TRow tents lookT valV_tents)
open Tb (key2 PairK wk TblAt TblC Tab TabAt rowsO tmeth firsts spTItem spTEq)
open Fk (NameV nameB srt srt_perm ents)
open EvP (Ex All2 is Gives GivesA)
abbrev tMulLR : TE := tOp (rI CMul fun i j => V.int (i * j)) (tDGet (tVar 2) (tVar 5)) (tDGet (tVar 3) (tVar 6))
abbrev tRates : TS := tLock (tFor (iKeys (tVar 2)) (gName 5) (tLock (tFor (iKeys (tVar 3)) (gName 6) (tIfS (tTest (tOp (rI0 fun i j => V.bl (decide (j < i))) tMulLR (tC (.int 0)))) (sDPut (tVar 4) (tTup (tCons (tVar 5) (tCons (tVar 6) tNil))) tMulLR) tNext))))
abbrev σR (vp vt : Option V) (d1 d2 fa : Addr) (o5 o6 : Option V) : L2.St := [vp, vt, some (.ref d1), some (.ref d2), some (.ref fa), o5, o6, none, none]
section
variable {H : Hp} {vp vt : Option V} {d1 d2 fa : Addr} {r1 r2 : Fk.Row} {u : TS} {D : Ends}
theorem go_mulLR {H : Hp} {e f : Str × Int} {od1 od2 : Obj} {Q : VK} (h1 : H d1 = some (.frz od1 (.dK (ents r1)))) (h2 : H d2 = some (.frz od2 (.dK (ents r2)))) (n1 : (r1.map (·.1)).Nodup) (n2 : (r2.map (·.1)).Nodup) (he : e ∈ r1) (hf : f ∈ r2) (b : CMul e.2 f.2) (k : Q (.int (e.2 * f.2)) H) :
    tMulLR (σR vp vt d1 d2 fa (some (.str e.1)) (some (.str f.1))) H Q :=
  ⟨_, rfl, _, rfl, d1, _, rfl, .inl ⟨_, Sum.inr e.1, .inr ⟨od1, h1⟩, rfl, (valV_entsIn n1 he).symm⟩, _, rfl, _, rfl, d2, _, rfl, .inl ⟨_, Sum.inr f.1, .inr ⟨od2, h2⟩, rfl, (valV_entsIn n2 hf).symm⟩, e.2, f.2, rfl, rfl, b, k⟩
theorem st_rates (h1 : H d1 = some (.dK (ents r1))) (h2 : H d2 = some (.dK (ents r2))) (ne : d1 ≠ d2) (hf : H fa = some (.dT [])) (n1 : (r1.map (·.1)).Nodup) (n2 : (r2.map (·.1)).Nodup) (l1 : r1.length ≤ 6) (l2 : r2.length ≤ 6)
    (b : ∀ e ∈ r1, ∀ f ∈ r2, CMul e.2 f.2) (o5 o6 : Option V)
    (k : ∀ o5 o6 H', H' fa = some (.dT (tents (prodL r1 r2))) → (∀ c o, H c = some o → c ≠ fa → H' c = some o) → u D (σR vp vt d1 d2 fa o5 o6) H') :
    tSeq tRates u D (σR vp vt d1 d2 fa o5 o6) H := by
  have nod := prodL_nod n2 n1
  have f1 : fa ≠ d1 := ne_of hf h1 fun z => nomatch z
  have f2 : fa ≠ d2 := ne_of hf h2 fun z => nomatch z
  refine ⟨d1, _, h1, True.intro, fun od1 => ⟨_, rfl, d1, od1, rfl, .inl ⟨ents r1, upd_same, for_it walk_keys (fun n σ' H' => ∃ o5 o6, σ' = σR vp vt d1 d2 fa o5 o6 ∧ H' d1 = some (.frz od1 (.dK (ents r1))) ∧ H' fa = some (.dT (tents (prodL (r1.take n) r2))) ∧ ∀ c o, H c = some o → c ≠ d1 → c ≠ fa → H' c = some o) ?_ ?_ ?_ ?_⟩⟩⟩
  · exact ⟨o5, o6, rfl, upd_same, by rw [upd_ne f1, hf, List.take_zero]; rfl, fun c o hc c1 _ => by rw [upd_ne c1]; exact hc⟩
  · rintro n σ' H' _ ⟨_, _, _, hz, _⟩
    exact hz
  · rintro n x σ' H' H'' hn ⟨o5, o6, rfl, hz, hfa, kp⟩ ⟨rfl, kk, vv, hk, rfl⟩
    obtain ⟨e, he, rfl⟩ := ents_get hk
    have me := List.mem_of_getElem? he
    have h2' := kp _ _ h2 ne.symm f2.symm
    refine ⟨d2, _, h2', True.intro, fun od2 => ⟨_, rfl, d2, od2, rfl, .inl ⟨ents r2, upd_same, for_it walk_keys (fun m σ' H' => ∃ o6, σ' = σR vp vt d1 d2 fa (some (.str e.1)) o6 ∧ H' d1 = some (.frz od1 (.dK (ents r1))) ∧ H' d2 = some (.frz od2 (.dK (ents r2))) ∧ H' fa = some (.dT (tents (prodL (r1.take n) r2 ++ prodR e (r2.take m)))) ∧ ∀ c o, H c = some o → c ≠ d1 → c ≠ d2 → c ≠ fa → H' c = some o) ?_ ?_ ?_ ?_⟩⟩⟩
    · exact ⟨o6, rfl, by rw [upd_ne ne]; exact hz, upd_same, by rw [upd_ne f2, hfa, List.take_zero]; show _ = some (HO.dT (tents (prodL (r1.take n) r2 ++ []))); rw [List.append_nil], fun c o hc c1 c2 c3 => by rw [upd_ne c2]; exact kp c o hc c1 c3⟩
    · rintro m σ' H3 _ ⟨_, _, _, hz2, _⟩
      exact hz2
    · rintro m x σ' H3 H4 hm ⟨o6, rfl, z1, z2, zf, kp2⟩ ⟨rfl, kk, vv, hk, rfl⟩
      obtain ⟨f, hff, rfl⟩ := ents_get hk
      have mf := List.mem_of_getElem? hff
      have tk : r2.take (m + 1) = r2.take m ++ [f] := by
        rw [List.take_add_one, hff]
        rfl
      refine go_mulLR (e := e) (f := f) z1 z2 n1 n2 me mf (b e me f mf) ⟨_, 0, rfl, rfl, _, rfl, ?_⟩
      have sub := prod_sub (r1 := r1) (r2 := r2) (n := n) (m := m + 1) he
      have nodS := nod.sublist (sub.map (·.1))
      have lenS := Nat.le_trans sub.length_le (prodL_len l2 r1)
      rw [tk, prodR_snoc] at nodS lenS
      by_cases c : 0 < e.2 * f.2
      · rw [decide_eq_true c]
        rw [if_pos c, ← List.append_assoc] at nodS lenS
        refine go_mulLR (e := e) (f := f) z1 z2 n1 n2 me mf (b e me f mf) ⟨_, rfl, _, rfl, _, rfl, by show 2 ≤ sizeLine; decide, fun p np => ?_⟩
        have en := Ex.new (o := .tup [V.str e.1, .str f.1]) np
        refine ⟨fa, _, rfl, DPut.t (k := key2 e.1 f.1) (en _ _ zf) upd_same ?_, ?_⟩
        · unfold tents
          rw [List.length_map, sizeLine_eq]
          rw [List.length_append] at lenS
          omega
        · rw [Tb.tents_put nodS]
          refine ⟨_, rfl, by rw [upd_ne f1.symm]; exact en _ _ z1, by rw [upd_ne f2.symm]; exact en _ _ z2, ?_, fun c o hc c1 c2 c3 => by rw [upd_ne c3]; exact en _ _ (kp2 c o hc c1 c2 c3)⟩
          rw [upd_same, tk, prodR_snoc, if_pos c, ← List.append_assoc]
      · rw [decide_eq_false c]
        refine iteF ?_
        refine ⟨_, rfl, z1, z2, ?_, kp2⟩
        rw [tk, prodR_snoc, if_neg c, List.append_nil]
        exact zf
    · rintro σ' H3 ⟨o6, rfl, z1, z2, zf, kp2⟩
      have tk : r1.take (n + 1) = r1.take n ++ [e] := by
        rw [List.take_add_one, he]
        rfl
      refine ⟨z2, _, _, rfl, by rw [upd_ne ne]; exact z1, ?_, fun c o hc c1 c3 => ?_⟩
      · rw [upd_ne f2, zf, tk, prodL_snoc]
        have : (ents r2).length = r2.length := by
          unfold ents
          rw [List.length_map]
        rw [this, List.take_length]
      · by_cases c2 : c = d2
        · rw [c2, upd_same, ← h2, ← c2]
          exact hc
        · rw [upd_ne c2]
          exact kp2 c o hc c1 c2 c3
  · rintro σ' H' ⟨o5, o6, rfl, hz, hfa, kp⟩
    refine ⟨hz, k o5 o6 _ ?_ fun c o hc c3 => ?_⟩
    · have : (ents r1).length = r1.length := by
        unfold ents
        rw [List.length_map]
      rw [this, List.take_length] at hfa
      rw [upd_ne f1]
      exact hfa
    · by_cases c1 : c = d1
      · rw [c1, upd_same, ← h1, ← c1]
        exact hc
      · rw [upd_ne c1]
        exact kp c o hc c1 c3
end
end K06

set_option Elab.async false
set_option linter.all false
set_option maxRecDepth 100000
set_option maxHeartbeats 4000000
/-! _law_rated_right: the def. -/
namespace K06
open PySem PySem.Spec PyProof.Rows L2 Cm
open DtE (TRow tents lookT valV_tents)
open Tb (key2 PairK wk TblAt TblC Tab TabAt rowsO tmeth firsts spTItem spTEq)
open Fk (NameV nameB srt srt_perm ents)
open EvP (Ex All2 is Gives GivesA)
/-- the static method rated -/
structure Rte7 (P : Program) (w : World) (K : PySem.W.Frag) (mg : Str → Option Value) (base : Heap) (C : Addr) where
  mc : Value
  RC : ClX.CRead K C mc
  p : Addr
  g : Addr
  fd : FuncData
  SM : SMet K C mc "rated" p g
  ok : XG.FnG P w K mg base CX0 7 g fd ["by_source", "by_use"] (spTRat C)
  b2 : Binds K fd ["by_source", "by_use"] []
  kb : KBinds K fd ["by_source", "by_use"] ["by_use", "by_source"] kwF kwF
abbrev sRtd : Stmt := top 51
abbrev NRd : List Str := ["pen", "plain", "left", "right", "found", "source", "use", "kept", "made"]
theorem scRtd : FnScope NRd ["pen", "plain"] (defScope sRtd) := ⟨rfl, rfl, rfl, by decide +kernel, rfl, by decide +kernel, by decide +kernel⟩
abbrev tPow (a b : Int) : TE := tOp (rI CPow fun i j => .int (i ^ j.toNat)) (tC (.int a)) (tC (.int b))
abbrev lsA : TE := tLst (tCons (tC (.int 0)) (tCons (tC (.int 1)) (tCons (tC (.int 2)) (tCons (tC (.int 9)) (tCons (tPow 10 15) tNil)))))
abbrev lsB : TE := tLst (tCons (tC (.int 0)) (tCons (tC (.int 1)) (tCons (tC (.int 3)) (tCons (tPow 10 14) tNil))))
theorem st_drawD {K : PySem.W.Frag} {σ : L2.St} {H : Hp} {p q a : Addr} {ns : List Int} {s g : Int} {i m : Nat} {ls ti : TE} {L : List Int} {xs : List Str} {u : TS} {D : Ends}
    (h0 : σ[0]? = some (some (.ref p))) (i0 : i ≠ 0) (li : i < σ.length) (hi : ∀ R : VK, R (.ref a) H → ti σ H R) (hls : ∀ σ H (R : VK), (∀ l, H l = none → R (.ref l) (upd H l (.lst (L.map V.int)))) → ls σ H R)
    (ha : H a = some (.lst (xs.map V.str))) (hP : Pen H p q ns s g) (hl : ns.length ≤ 63) (s0 : 0 ≤ s) (s1 : s < 95000) (few : xs.length ≤ 6) (nX : xs.Nodup) (L0 : 0 < L.length) (L1 : L.length < 100000)
    (k : ∀ d (r : Fk.Row) sd gd H', H' d = some (.dK (ents r)) → r.map (·.1) = xs → (∀ e ∈ r, e.2 ∈ L) → s ≤ sd → sd ≤ s + 6 → Pen H' p q ns sd gd → But p H H' → (∀ b o, H b = some o → b ≠ d) → u D (σ.set m (some (.ref d))) H') :
    tSeq (tAsg (tCB (rDP K) (tCons (tLc (iList K ti) (gName i) tYes (tePk i ls) [i]) tNil)) (gName m)) u D σ H := go_drawD (K := K) h0 i0 li hi hls ha hP hl s0 s1 few nX L0 L1 k
theorem lsA_go (σ : L2.St) (H : Hp) (R : VK) (h : ∀ l, H l = none → R (.ref l) (upd H l (.lst (([0, 1, 2, 9, 10 ^ (15 : Int).toNat] : List Int).map V.int)))) : lsA σ H R := ⟨10, 15, rfl, rfl, ⟨by decide, by decide, by decide⟩, by show 5 ≤ sizeLine; decide, fun l nl => h l nl⟩
theorem lsB_go (σ : L2.St) (H : Hp) (R : VK) (h : ∀ l, H l = none → R (.ref l) (upd H l (.lst (([0, 1, 3, 10 ^ (14 : Int).toNat] : List Int).map V.int)))) : lsB σ H R := ⟨10, 14, rfl, rfl, ⟨by decide, by decide, by decide⟩, by show 4 ≤ sizeLine; decide, fun l nl => h l nl⟩
section
variable {C d1 d2 : Addr} {r1 r2 : Fk.Row} {ss xs : List Str} {σ : L2.St} {H : Hp}
theorem g_rat (h2 : σ[2]? = some (some (.ref d1))) (h3 : σ[3]? = some (some (.ref d2))) (k1 : H d1 = some (.dK (ents r1))) (k2 : H d2 = some (.dK (ents r2))) (ne : d1 ≠ d2) (e1 : r1.map (·.1) = ss) (e2 : r2.map (·.1) = xs) (o1 : NamesOk ss) (o2 : NamesOk xs) (b1 : ∀ e ∈ r1, 0 ≤ e.2 ∧ e.2 < 10 ^ 64) (b2 : ∀ e ∈ r2, 0 ≤ e.2 ∧ e.2 < 10 ^ 64) :
    Gives (tSM C (spTRat C) [] (tC (.ref C)) (tCons (tVar 2) (tCons (tVar 3) tNil))) σ H (tabW C ss xs (prodG r1 r2)) := fun H1 e Q q => by
  subst e1 e2
  exact ⟨rfl, _, h2, _, h3, d1, d2, r1, r2, rfl, e _ _ k1, e _ _ k2, ne, o1, o2, b1, b2, fun c H' e' h => q c H' e' h⟩
theorem g_ratK (h2 : σ[2]? = some (some (.ref d1))) (h3 : σ[3]? = some (some (.ref d2))) (k1 : H d1 = some (.dK (ents r1))) (k2 : H d2 = some (.dK (ents r2))) (ne : d1 ≠ d2) (e1 : r1.map (·.1) = ss) (e2 : r2.map (·.1) = xs) (o1 : NamesOk ss) (o2 : NamesOk xs) (b1 : ∀ e ∈ r1, 0 ≤ e.2 ∧ e.2 < 10 ^ 64) (b2 : ∀ e ∈ r2, 0 ≤ e.2 ∧ e.2 < 10 ^ 64) :
    Gives (XG.tSMK C (spTRat C) kwF (tC (.ref C)) (tCons (tVar 3) (tCons (tVar 2) tNil))) σ H (tabW C ss xs (prodG r1 r2)) := fun H1 e Q q => by
  subst e1 e2
  exact ⟨rfl, _, h3, _, h2, d1, d2, r1, r2, rfl, e _ _ k1, e _ _ k2, ne, o1, o2, b1, b2, fun c H' e' h => q c H' e' h⟩
theorem eqV_ents {K : PySem.W.Frag} {a b : Addr} {r : Fk.Row} (nod : (r.map (·.1)).Nodup) (ha : H a = some (.dK (ents r))) (hb : H b = some (.dK (ents r))) : EqV K H 2 (.ref a) (.ref b) :=
  .inr (.inr (.inr ⟨a, b, ents r, ents r, rfl, rfl, ha, hb, rfl, fun p hp => by
    unfold ents at hp
    obtain ⟨e, he, rfl⟩ := List.mem_map.mp hp
    exact ⟨_, valV_entsIn nod he, .inl ⟨rfl, rfl⟩⟩⟩))
end
section
variable {P : Program} {w : World} {K : PySem.W.Frag} {mg : Str → Option Value} {base : Heap} {C f : Addr} {fd : FuncData}
theorem ok_rtd (F : Fun K "_law_rated_right" "_law_rated_right" sRtd f fd) (M : Tbl7 P w K mg base C) (RT : Rte7 P w K mg base C) (hD : mg "dict" = none)
    (DI : CalG P w K mg base 5 "_law_is" ["table", "plain"] (spIs5 C)) (DK : CalD P w K mg base 2 "_law_pick" ["pen", "some"] spPick) : XG.FnG P w K mg base CX0 8 f fd ["pen", "plain"] spR7 := by
  have nd := scRtd.nd
  refine XG.Fun.okG F scRtd spR7_len fun cdv A outer sh H vs Q E gd hr h => ?_
  obtain ⟨p, q, ns, s, g, v, ss, xs, r, rfl, hP, hl, s0, s1, pa, ok, k⟩ := h
  have hu := hu_of hr
  refine ⟨_, pss_cons (ps_set (i := 2) nd rfl (by first | exact Or.inl rfl | exact Or.inr rfl) (pe_callTy (T := "dict") (call_dictP rfl) (by rfl) hD (by decide +kernel) (pa_cons (pe_lc (own := [("source", 5)]) (g := gName 5) (tt := tYes) (te := tePk 5 lsA) rfl nd (pi_list (pe_ix ix_tup (pv 1) pe_int (fun _ _ => rfl))) (blkOk_by (N := NRd) (sc := defScope sRtd) (by decide +kernel))
        (fun _ _ _ _ _ => pg_name (i := 5) nd rfl (by first | exact Or.inl rfl | exact Or.inr rfl)) (fun _ _ _ _ _ => pts_nil) (fun _ _ _ _ _ => pe_tup (pa_cons (pv 5) (pa_cons (pe_call DK.ok (hr.mono (by decide)) (by rfl) DK.g DK.kp DK.b .nil pass0 (pa_cons (pv 0) (pa_cons (pe_lst (pa_cons pe_int (pa_cons pe_int (pa_cons pe_int (pa_cons pe_int (pa_cons (pe_op op_pow pe_int pe_int) pa_nil)))))) pa_nil))) pa_nil)))) pa_nil)))
    (pss_cons (ps_set (i := 3) nd rfl (by first | exact Or.inl rfl | exact Or.inr rfl) (pe_callTy (T := "dict") (call_dictP rfl) (by rfl) hD (by decide +kernel) (pa_cons (pe_lc (own := [("use", 6)]) (g := gName 6) (tt := tYes) (te := tePk 6 lsB) rfl nd (pi_list (pe_ix ix_tup (pv 1) pe_int (fun _ _ => rfl))) (blkOk_by (N := NRd) (sc := defScope sRtd) (by decide +kernel))
        (fun _ _ _ _ _ => pg_name (i := 6) nd rfl (by first | exact Or.inl rfl | exact Or.inr rfl)) (fun _ _ _ _ _ => pts_nil) (fun _ _ _ _ _ => pe_tup (pa_cons (pv 6) (pa_cons (pe_call DK.ok (hr.mono (by decide)) (by rfl) DK.g DK.kp DK.b .nil pass0 (pa_cons (pv 0) (pa_cons (pe_lst (pa_cons pe_int (pa_cons pe_int (pa_cons pe_int (pa_cons (pe_op op_pow pe_int pe_int) pa_nil))))) pa_nil))) pa_nil)))) pa_nil)))
    (pss_cons (ps_set (i := 4) nd rfl (by first | exact Or.inl rfl | exact Or.inr rfl) pe_dnewT)
    (pss_cons (ps_lock (ps_for PassesOwn.never rfl (pi_keys (pv 2)) (pg_name (i := 5) nd rfl (by first | exact Or.inl rfl | exact Or.inr rfl))
      (pss_one (ps_lock (ps_for PassesOwn.never rfl (pi_keys (pv 3)) (pg_name (i := 6) nd rfl (by first | exact Or.inl rfl | exact Or.inr rfl))
        (pss_one (ps_if (pt_cmpR op_gt (pe_op op_mul (pe_dget hu (pv 2) (pv 5) (fun _ _ => rfl)) (pe_dget hu (pv 3) (pv 6) (fun _ _ => rfl))) pe_int (nomark _))
          (pss_one (ps_dput hu (pv 4) (pe_tup (pa_cons (pv 5) (pa_cons (pv 6) pa_nil))) (pe_op op_mul (pe_dget hu (pv 2) (pv 5) (fun _ _ => rfl)) (pe_dget hu (pv 3) (pv 6) (fun _ _ => rfl))) rfl)) pss_nil)))))))
    (pss_cons (ps_set (i := 7) nd rfl (by first | exact Or.inl rfl | exact Or.inr rfl) (pe_lst (pa_cons (pe_callTy (T := "dict") call_dictD (by rfl) hD (by decide +kernel) (pa_cons (pv 2) pa_nil)) (pa_cons (pe_callTy (T := "dict") call_dictD (by rfl) hD (by decide +kernel) (pa_cons (pv 3) pa_nil)) pa_nil))))
    (pss_cons (ps_set (i := 8) nd rfl (by first | exact Or.inl rfl | exact Or.inr rfl) (pe_smG (pe_glob (v := .ref C) (by rfl) M.gT rfl) RT.RC RT.SM RT.ok spTRat_len gd hr RT.b2 .nil (pa_cons (pv 2) (pa_cons (pv 3) pa_nil))))
    (pss_cons (ps_if (pt_cmpR (op_neV hr.units) (pe_lst (pa_cons (pv 2) (pa_cons (pv 3) pa_nil))) (pv 7) (nomark _)) (pss_one (ps_ret pe_bl)) pss_nil)
    (pss_one (ps_ret (pe_and (Tb.pe_callG DI.ok DI.len gd (hr.mono (by decide)) (by rfl) DI.g DI.kp DI.b (pa_cons (pv 8) (pa_cons (pe_tup (pa_cons (pe_ix ix_tup (pv 1) pe_int (fun _ _ => rfl)) (pa_cons (pe_ix ix_tup (pv 1) pe_int (fun _ _ => rfl)) (pa_cons (pv 4) pa_nil)))) pa_nil)))
      (pe_one (pe_cmpR (Own.cmp_own (op := .Eq) M.eq (hr.mono (by decide))) (XG.pe_smKG (pe_glob (v := .ref C) (by rfl) M.gT rfl) RT.RC RT.SM RT.ok spTRat_len gd hr RT.kb (pk_cons (pv 3) (pk_cons (pv 2) pk_nil))) (pv 8) (nomark _)))))))))))), ?_⟩
  obtain ⟨t, a, b, d, rfl, h1, h2, h3, h4⟩ := pa.ex
  -- left = ..
  refine st_drawD (K := K) (m := 2) (ti := tOp (rIxT K) (tVar 1) (tC (.int 0))) (σ := [some (.ref p), some (.ref t), none, none, none, none, none, none, none]) (a := a) (i := 5) (ls := lsA) (L := [0, 1, 2, 9, 10 ^ (15 : Int).toNat]) rfl (by decide) (by show 5 < 9; decide) (fun R h => ⟨_, rfl, t, _, 0, .ref a, rfl, rfl, SqT.of h1, atI_nat (xs := [V.ref a, .ref b, .ref d]) (j := 0) rfl, h⟩) lsA_go h2 hP hl s0 (by omega) ok.s.few ok.s.nod (by decide) (by decide) fun d1 r1 sd gd H2 k1 er1 m1 a1 a2 hP2 bt2 fr2 => ?_
  have pa2 := pa.but hP bt2
  obtain ⟨t', a', b', d', et, j1, j2, j3, j4⟩ := pa2.ex
  cases et
  dsimp only [gName]
  -- right = ..
  refine st_drawD (K := K) (m := 3) (ti := tOp (rIxT K) (tVar 1) (tC (.int 1))) (σ := [some (.ref p), some (.ref t), some (.ref d1), none, none, none, none, none, none]) (a := b') (i := 6) (ls := lsB) (L := [0, 1, 3, 10 ^ (14 : Int).toNat]) rfl (by decide) (by show 6 < 9; decide) (fun R h => ⟨_, rfl, t, _, 1, .ref b', rfl, rfl, SqT.of j1, atI_nat (xs := [V.ref a', .ref b', .ref d']) (j := 1) rfl, h⟩) lsB_go j3 hP2 hl (by omega) (by omega) ok.u.few ok.u.nod (by decide) (by decide) fun d2 r2 se ge H3 k2 er2 m2 a3 a4 hP3 bt3 fr3 => ?_
  have pa3 := pa2.but hP2 bt3
  have ne : d1 ≠ d2 := fr3 _ _ k1
  have d1p : d1 ≠ p := ne_of k1 hP2.p fun z => nomatch z
  have k1' := bt3 _ _ k1 d1p
  have bt03 : But p H H3 := fun c o hc n => bt3 _ _ (bt2 _ _ hc n) n
  have v1 : ∀ e ∈ r1, 0 ≤ e.2 ∧ e.2 ≤ 10 ^ 15 := fun e he => by
    have := m1 e he
    simp only [List.mem_cons, List.not_mem_nil, or_false] at this
    rcases this with h | h | h | h | h <;> rw [h] <;> exact ⟨by decide, by decide⟩
  have v2 : ∀ e ∈ r2, 0 ≤ e.2 ∧ e.2 ≤ 10 ^ 14 := fun e he => by
    have := m2 e he
    simp only [List.mem_cons, List.not_mem_nil, or_false] at this
    rcases this with h | h | h | h <;> rw [h] <;> exact ⟨by decide, by decide⟩
  have w1 : ∀ e ∈ r1, 0 ≤ e.2 ∧ e.2 < 10 ^ 64 := fun e he => ⟨(v1 e he).1, Int.lt_of_le_of_lt (v1 e he).2 (by decide)⟩
  have w2 : ∀ e ∈ r2, 0 ≤ e.2 ∧ e.2 < 10 ^ 64 := fun e he => ⟨(v2 e he).1, Int.lt_of_le_of_lt (v2 e he).2 (by decide)⟩
  have n1 : (r1.map (·.1)).Nodup := by rw [er1]; exact ok.s.nod
  have n2 : (r2.map (·.1)).Nodup := by rw [er2]; exact ok.u.nod
  have l1 : r1.length ≤ 6 := by
    have := congrArg List.length er1
    rw [List.length_map] at this
    rw [this]
    exact ok.s.few
  have l2 : r2.length ≤ 6 := by
    have := congrArg List.length er2
    rw [List.length_map] at this
    rw [this]
    exact ok.u.few
  have cm : ∀ e ∈ r1, ∀ f ∈ r2, CMul e.2 f.2 := fun e he f hf => .inl ⟨Int.lt_of_lt_of_le (by decide) (v1 e he).1, Int.lt_of_le_of_lt (v1 e he).2 (by decide)⟩
  have pOk := prodL_ok er1 er2 ok.s.nod ok.u.nod v1 v2
  have pWk := prodL_wk n1 n2 (fun e he => (v1 e he).1) fun e he => (v2 e he).1

  -- found = {}
  refine fun fa nfa => ?_
  have e4 := Ex.new (o := .dT []) nfa
  -- the loops
  refine st_rates (vp := some (.ref p)) (vt := some (.ref t)) (e4 _ _ k1') (e4 _ _ k2) ne upd_same n1 n2 l1 l2 cm none none fun o5 o6 H5 hfa kp5 => ?_
  have E5 : Ex H3 H5 := fun c o hc => kp5 c o (e4 _ _ hc) (ne_of_none hc nfa)
  have p1 := E5 _ _ k1'
  have p2 := E5 _ _ k2
  have pa5 : PlainAt H5 (.ref t) ss xs r := (plainP ss xs r).mono _ _ _ E5 pa3
  obtain ⟨t', a', b', d', et, q1, q2, q3, q4⟩ := pa5.ex
  cases et
  -- kept = ..
  refine ⟨_, rfl, d1, ents r1, rfl, Rd.of p1, fun c1 nc1 => ⟨_, rfl, d2, ents r2, rfl, Rd.of (Ex.new nc1 _ _ p2), fun c2 nc2 => ⟨by show 2 ≤ sizeLine; decide, fun lk nlk => ?_⟩⟩⟩
  have x1 := Ex.new (o := .dK (ents r1)) nc1
  have x2 := Ex.new (o := .dK (ents r2)) nc2
  have x3 := Ex.new (o := .lst [V.ref c1, .ref c2]) nlk
  have E6 := (x1.trans x2).trans x3
  have y1 := x3 _ _ (x2 _ _ (upd_same (H := H5) (a := c1) (o := .dK (ents r1))))
  have y2 := x3 _ _ (upd_same (H := upd H5 c1 (.dK (ents r1))) (a := c2) (o := .dK (ents r2)))
  have y3 : upd (upd (upd H5 c1 (.dK (ents r1))) c2 (.dK (ents r2))) lk (.lst [V.ref c1, .ref c2]) lk = some (.lst [V.ref c1, .ref c2]) := upd_same
  dsimp only [gName]
  generalize upd (upd (upd H5 c1 (.dK (ents r1))) c2 (.dK (ents r2))) lk (.lst [V.ref c1, .ref c2]) = H6 at E6 y1 y2 y3 ⊢
  -- made = ..
  refine EvP.st_set (P := tabW C ss xs (prodG r1 r2)) (g_rat (C := C) (σ := [some (.ref p), some (.ref t), some (.ref d1), some (.ref d2), some (.ref fa), o5, o6, some (.ref lk), none]) rfl rfl (E6 _ _ p1) (E6 _ _ p2) ne er1 er2 ok.s ok.u w1 w2) fun v7 H7 e7 T7 => ?_
  have E7 := E6.trans e7
  -- if [left, right] != kept
  refine ⟨_, rfl, _, rfl, by show 2 ≤ sizeLine; decide, fun l2 nl2 => ?_⟩
  have e8 := Ex.new (o := .lst [V.ref d1, .ref d2]) nl2
  have hl2 : upd H7 l2 (.lst [V.ref d1, .ref d2]) l2 = some (.lst [V.ref d1, .ref d2]) := upd_same
  dsimp only [List.set]
  generalize upd H7 l2 (.lst [V.ref d1, .ref d2]) = H8 at e8 hl2 ⊢
  have E8 := E7.trans e8
  refine ⟨_, rfl, 2, l2, lk, _, _, by decide, rfl, rfl, SqL.of hl2, SqL.of (e8 _ _ (e7 _ _ y3)), .cons (eqV_ents n1 (E8 _ _ p1) (e8 _ _ (e7 _ _ y1))) (.cons (eqV_ents n2 (E8 _ _ p2) (e8 _ _ (e7 _ _ y2))) .nil), _, rfl, ?_⟩
  refine iteF ?_
  have T8 := (tabW C ss xs (prodG r1 r2)).mono _ _ _ e8 T7
  have lt : ∀ k, wk (prodL r1 r2) k < 10 ^ 70 := fun k => Int.lt_trans (wk_nn pOk k).2 (by decide)
  -- return ..
  refine EvP.st_ret (P := is (.bl true)) (g_and (g_is5 ok.s ok.u (EvP.varP rfl T8) ?_ pOk.good pWk lt) (g_eqT ok.s ok.u (g_ratK (C := C) rfl rfl (E8 _ _ p1) (E8 _ _ p2) ne er1 er2 ok.s ok.u w1 w2) (EvP.varP rfl T8) fun _ => rfl)) fun v9 H9 e9 ev => ?_
  · refine Fk.Gives.imp (EvP.tuple (EvP.cons (g_ixP (K := K) (i := 1) rfl (E8 _ _ q1) (atI_nat (xs := [V.ref a', .ref b', .ref d']) (j := 0) rfl) (E8 _ _ q2)) (EvP.cons (g_ixP (K := K) (i := 1) rfl (E8 _ _ q1) (atI_nat (xs := [V.ref a', .ref b', .ref d']) (j := 1) rfl) (E8 _ _ q3)) (EvP.cons (EvP.varP (P := ⟨fun v H => ∃ a, v = .ref a ∧ H a = some (.dT (tents (prodL r1 r2))), fun _ _ _ e ⟨a, h1, h2⟩ => ⟨a, h1, e _ _ h2⟩⟩) rfl ⟨fa, rfl, E8 _ _ hfa⟩) EvP.nil))) (by show 3 ≤ 1000; decide)) fun v H ⟨p', vs, ev, hp, hs⟩ => ?_
    cases hs with
    | cons c1 hs => cases hs with
      | cons c2 hs => cases hs with
        | cons c3 hs =>
          cases hs
          obtain ⟨p1, rfl, q1⟩ := c1
          obtain ⟨p2, rfl, q2⟩ := c2
          obtain ⟨p3, rfl, q3⟩ := c3
          exact ⟨p', p1, p2, p3, ev, hp, q1, q2, q3⟩
  rw [show v9 = V.bl true from ev]
  have E9 := E5.trans (E8.trans e9)
  exact k se ge H9 (by omega) (by omega) ⟨E9 _ _ hP3.p, E9 _ _ hP3.q⟩ fun c o hc n => E9 _ _ (bt03 _ _ hc n)
end
end K06

set_option Elab.async false
set_option linter.all false
set_option maxRecDepth 100000
set_option maxHeartbeats 4000000
/-! The law itself. -/
namespace K06
open PySem PySem.Spec PyProof.Rows L2 Cm
open DtE (TRow tents lookT sameT)
open Tb (key2 PairK wk TblAt TblC Tab TabAt tblT spTStr firsts)
open Fk (NameV nameB srt srt_perm)
open EvP (Ex All2 is Gives)
abbrev sLaw7 : Stmt := top 53
abbrev NL7 : List Str := ["script", "pen", "turn", "plain"]
theorem scLaw7 : FnScope NL7 ["script"] (defScope sLaw7) := ⟨rfl, rfl, rfl, by decide +kernel, rfl, by decide +kernel, by decide +kernel⟩
def spLaw7 (K : PySem.W.Frag) : Sp := fun vs H Q _ => ∃ (a : Addr) (ns : List Int), vs = [.ref a] ∧ SqL K H a (ns.map V.int) ∧ ns.length ≤ 63 ∧ ∀ H', Q (.bl true) H'
theorem spLaw7_len {K : PySem.W.Frag} : ∀ vs H Q E, spLaw7 K vs H Q E → vs.length = (["script"] : List Str).length := fun vs H Q E h => by
  obtain ⟨a, ns, rfl, _⟩ := h
  rfl
/-- the law's last tables -/
abbrev sZ : List Str := ["a", "b"]
abbrev xZ : List Str := ["x", "y"]
abbrev rZ : TRow := [(key2 "a" "x", 3), (key2 "a" "y", 2), (key2 "b" "y", 1)]
theorem sZ_ok : NamesOk sZ := namesOk_of (by decide +kernel)
theorem xZ_ok : NamesOk xZ := namesOk_of (by decide +kernel)
theorem srt_sZ : srt sZ = sZ := (Fk.srt_of (List.Perm.refl _) (by decide +kernel)).symm
theorem srt_xZ : srt xZ = xZ := (Fk.srt_of (List.Perm.refl _) (by decide +kernel)).symm
theorem rZ_good : GoodR sZ xZ rZ := ⟨by decide +kernel, fun t ht => by
  simp only [List.mem_cons, List.not_mem_nil, or_false] at ht
  rcases ht with rfl | rfl | rfl
  · exact ⟨"a", by simp, "x", by simp, rfl⟩
  · exact ⟨"a", by simp, "y", by simp, rfl⟩
  · exact ⟨"b", by simp, "y", by simp, rfl⟩, by decide +kernel⟩
theorem rZ_lt (k : List Key) : wk rZ k < 10 ^ 30 := by
  unfold wk
  cases h : lookT rZ k with
  | none => decide
  | some n =>
    have m := (look_mem rZ_good.nod).mp h
    simp only [List.mem_cons, List.not_mem_nil, or_false, Prod.mk.injEq] at m
    show n < 10 ^ 30
    rcases m with ⟨_, rfl⟩ | ⟨_, rfl⟩ | ⟨_, rfl⟩ <;> decide
abbrev rowA : List (Key × V) := [(Sum.inr "x", .int 3), (Sum.inr "y", .int 2)]
abbrev rowB' : List (Key × V) := [(Sum.inr "y", .int 1)]
theorem merge_two {s t : Str} (h : decide ((Sum.inr s : Key) = Sum.inr t) = false) (p2 p3 : Addr) : mergeK [] [((Sum.inr s : Key), V.ref p2), ((Sum.inr t : Key), V.ref p3)] = [((Sum.inr s : Key), V.ref p2), ((Sum.inr t : Key), V.ref p3)] := by
  show putK (putK [] (Sum.inr s : Key) (V.ref p2)) (Sum.inr t : Key) (V.ref p3) = _
  have e : putK ([] : List (Key × V)) (Sum.inr s : Key) (V.ref p2) = [((Sum.inr s : Key), V.ref p2)] := rfl
  rw [e]
  unfold putK
  rw [List.any_cons, h]
  rfl
/-- the rows of the law's last table -/
abbrev tZ (p2 p3 : Addr) : Tab := [("a", p2, [("x", 3), ("y", 2)]), ("b", p3, [("y", 1)])]
theorem tZ_ok {p2 p3 : Addr} (n : p2 ≠ p3) : Tb.TabOk (tZ p2 p3) where
  nod := by
    show ([("a" : Str), "b"] : List Str).Nodup
    decide +kernel
  nodA := by
    show ([p2, p3] : List Addr).Nodup
    simp [n]
  nm := fun t ht => by
    simp only [tZ, List.mem_cons, List.not_mem_nil, or_false] at ht
    rcases ht with rfl | rfl
    · exact sZ_ok.nm "a" (by simp)
    · exact sZ_ok.nm "b" (by simp)
  row := fun t ht => by
    simp only [tZ, List.mem_cons, List.not_mem_nil, or_false] at ht
    rcases ht with rfl | rfl
    · refine ⟨by show ([("x" : Str), "y"] : List Str).Nodup; decide +kernel, fun e he => ?_, by show 2 ≤ 12; decide⟩
      simp only [List.mem_cons, List.not_mem_nil, or_false] at he
      rcases he with rfl | rfl
      · exact ⟨xZ_ok.nm "x" (by simp), by decide⟩
      · exact ⟨xZ_ok.nm "y" (by simp), by decide⟩
    · refine ⟨by show ([("y" : Str)] : List Str).Nodup; decide +kernel, fun e he => ?_, by show 1 ≤ 12; decide⟩
      simp only [List.mem_cons, List.not_mem_nil, or_false] at he
      rcases he with rfl
      exact ⟨xZ_ok.nm "y" (by simp), by decide⟩
  few := by show 2 ≤ 12; decide
theorem tZ_uses (p2 p3 : Addr) : Tb.usesOf [] (tZ p2 p3) = xZ := by
  have e : Tb.firsts ([] ++ Tb.namesOf (tZ p2 p3)) = xZ := by
    show Tb.firsts [("x" : Str), "y", "y"] = xZ
    decide +kernel
  unfold Tb.usesOf
  rw [e, srt_xZ]
theorem tZ_worths (p2 p3 : Addr) : Tb.worths (tZ p2 p3) = rZ := by
  show Tb.wrow "a" [("x", 3), ("y", 2)] ++ (Tb.wrow "b" [("y", 1)] ++ []) = rZ
  decide +kernel
theorem rZ_w : WorthsOk sZ xZ rZ := ⟨rZ_good.nod, rZ_good.key, by decide +kernel⟩
theorem txt_I : tblT xZ sZ (turnR rZ) = "a b : x 3 0 ; y 2 1" := by decide +kernel
section
variable {P : Program} {w : World} {K : PySem.W.Frag} {mg : Str → Option Value} {base : Heap} {C f fI aE : Addr} {fd fdI : FuncData} {ds : List Value}
theorem ok_law7 (F : Fun K "law" "law" sLaw7 f fd) (M : Tbl7 P w K mg base C) (hR : mg "range" = none) (hS : mg "str" = none)
    (DP : CalD P w K mg base 1 "_law_pen" ["script"] (spPen K)) (DL : CalD P w K mg base 3 "_law_plain" ["pen", "most"] spPlain)
    (D1 : CalG P w K mg base 8 "_law_worth_right" ["pen", "plain"] spR7) (D2 : CalG P w K mg base 8 "_law_without_right" ["pen", "plain"] spR7) (D3 : CalG P w K mg base 8 "_law_flat_right" ["pen", "plain"] spR7) (D4 : CalG P w K mg base 8 "_law_rated_right" ["pen", "plain"] spR7) (D5 : CalG P w K mg base 8 "_law_turned_right" ["pen", "plain"] spR7)
    {fS : Addr} {dS : FuncData} (MS : Own.Mt P w K mg base C "__str__" 6 ["self"] (spTStr C) fS dS)
    (MK : Mk K C fI) (GI : XG.FnG P w K mg base CX0 5 fI fdI ["self", "rows", "uses"] (Tb.spTI K C)) (bI : Binds K fdI ["self", "rows", "uses"] ds) (hds : Vals [V.ref aE] ds) (hE : ∀ H, SqT K H aE []) (gT : mg "Table" = some (.ref C)) : XG.FnG P w K mg base CX0 9 f fd ["script"] (spLaw7 K) := by
  have nd := scLaw7.nd
  refine XG.Fun.okG F scLaw7 spLaw7_len fun cdv A outer sh H vs Q E gd hr h => ?_
  obtain ⟨a, ns, rfl, hSq, hl, q⟩ := h
  have hu := hu_of hr
  refine ⟨_, pss_cons (ps_set (i := 1) nd rfl (Or.inl rfl) (pe_call DP.ok (hr.mono (by decide)) (by rfl) DP.g DP.kp DP.b .nil pass0 (pa_cons (pv 0) pa_nil)))
    (pss_cons (ps_for PassesOwn.never rfl (pi_range1 rfl hR (pa_cons pe_int pa_nil)) (pg_name (i := 2) nd rfl (Or.inl rfl))
      (pss_cons (ps_set (i := 3) nd rfl (Or.inl rfl) (pe_call DL.ok (hr.mono (by decide)) (by rfl) DL.g DL.kp DL.b .nil pass0 (pa_cons (pv 1) (pa_cons pe_int pa_nil))))
      (pss_cons (ps_if (PW.pt (pw_or (pt_not (pt_val (Tb.pe_callG D1.ok D1.len gd hr (by rfl) D1.g D1.kp D1.b (pa_cons (pv 1) (pa_cons (pv 3) pa_nil))))) (pw_or (pt_not (pt_val (Tb.pe_callG D2.ok D2.len gd hr (by rfl) D2.g D2.kp D2.b (pa_cons (pv 1) (pa_cons (pv 3) pa_nil))))) (pw_or1 (pt_not (pt_val (Tb.pe_callG D3.ok D3.len gd hr (by rfl) D3.g D3.kp D3.b (pa_cons (pv 1) (pa_cons (pv 3) pa_nil))))))))) (pss_one (ps_ret pe_bl)) pss_nil)
      (pss_one (ps_if (PW.pt (pw_or (pt_not (pt_val (Tb.pe_callG D4.ok D4.len gd hr (by rfl) D4.g D4.kp D4.b (pa_cons (pv 1) (pa_cons (pv 3) pa_nil))))) (pw_or1 (pt_not (pt_val (Tb.pe_callG D5.ok D5.len gd hr (by rfl) D5.g D5.kp D5.b (pa_cons (pv 1) (pa_cons (pv 3) pa_nil)))))))) (pss_one (ps_ret pe_bl)) pss_nil)))))
    (pss_one (ps_ret (pe_cmpR op_eq (pe_callTy (T := "str") (Own.call_strOwn MS (hr.mono (by decide))) (by rfl) hS (by decide +kernel) (pa_cons (pe_un (XG.un_invG M.invA M.invN M.inv spTInv_len gd (hr.mono (by decide)) M.invB) (XG.pe_makeGD MK GI Tb.spTI_len gd (hr.mono (by decide)) bI hds (by rfl) gT (pa_cons (pe_disp (pps_cons pe_str (pe_disp (pps_cons pe_str pe_int (pps_cons pe_str pe_int pps_nil)) rfl rfl (by decide) (by decide)) (pps_cons pe_str (pe_disp (pps_cons pe_str pe_int pps_nil) rfl rfl (by decide) (by decide)) pps_nil)) rfl rfl (by decide) (by decide)) pa_nil))) pa_nil)) pe_str (nomark _))))), ?_⟩
  -- pen = _law_pen(script)
  refine ⟨_, rfl, a, ns, rfl, hSq, hl, fun p qc ms H1 hm hP1 x1 => ?_⟩
  -- for turn in range(8)
  refine ⟨8, rfl, by decide, by decide, for_range (lo := 0) (n := 8) (fun k σ H' => ∃ (o2 o3 : Option V) (s g : Int), σ = [some (.ref a), some (.ref p), o2, o3] ∧ Pen H' p qc ms s g ∧ 0 ≤ s ∧ s ≤ 2200 * (k : Int)) ?_ ?_ ?_⟩
  · exact ⟨none, none, 0, 0, rfl, hP1, by omega, by omega⟩
  · rintro k σ H2 hk ⟨o2, o3, s, g, rfl, hP2, s0, s1⟩
    refine ⟨_, rfl, p, qc, ms, s, g, _, rfl, hP2, hm, s0, by omega, by decide, by decide, fun v ss xs r sa ga H3 ok pa a1 b1 hP3 hB3 => ?_⟩
    dsimp only [gName]
    refine ⟨_, rfl, _, rfl, p, qc, ms, sa, ga, v, ss, xs, r, rfl, hP3, hm, by omega, by omega, pa, ok, fun sb gb H4 a2 b2 hP4 hB4 => ⟨true, rfl, ?_⟩⟩
    have pa4 := pa.but hP3 hB4
    refine ⟨_, rfl, _, rfl, p, qc, ms, sb, gb, v, ss, xs, r, rfl, hP4, hm, by omega, by omega, pa4, ok, fun sc gc H5 a3 b3 hP5 hB5 => ⟨true, rfl, ?_⟩⟩
    have pa5 := pa4.but hP4 hB5
    refine ⟨_, rfl, _, rfl, p, qc, ms, sc, gc, v, ss, xs, r, rfl, hP5, hm, by omega, by omega, pa5, ok, fun sd gd' H6 a4 b4 hP6 hB6 => ⟨true, rfl, ?_⟩⟩
    have pa6 := pa5.but hP5 hB6
    refine ⟨_, rfl, _, rfl, p, qc, ms, sd, gd', v, ss, xs, r, rfl, hP6, hm, by omega, by omega, pa6, ok, fun se ge H7 a5 b5 hP7 hB7 => ⟨true, rfl, ?_⟩⟩
    have pa7 := pa6.but hP6 hB7
    refine ⟨_, rfl, _, rfl, p, qc, ms, se, ge, v, ss, xs, r, rfl, hP7, hm, by omega, by omega, pa7, ok, fun sf gf H8 a6 b6 hP8 hB8 => ⟨true, rfl, ?_⟩⟩
    exact ⟨_, _, sf, gf, rfl, hP8, by omega, by
      push_cast
      omega⟩
  · rintro σ H0 ⟨o2, o3, s, g, rfl, hP2, s0, s1⟩
    clear hP2 s0 s1
    dsimp only
    refine EvP.st_ret (P := is (.bl true)) (g_op (P := is (.str "a b : x 3 0 ; y 2 1")) (R := is (.str "a b : x 3 0 ; y 2 1")) ?_ EvP.cst fun y z H9 e9 hy hz Q' k' => ?_) fun v H10 e10 ev => ?_
    · have gI : ∀ {ta : TE} {σ : L2.St} {H : Hp}, Gives ta σ H (tabW C sZ xZ (wk rZ)) → Gives (tCB (Own.rStrOwn C (spTStr C)) (tCons (tUn (XG.rInvG C (spTInv C)) ta) tNil)) σ H (is (.str "a b : x 3 0 ; y 2 1")) := fun h => by
        have z := g_strT (r := turnR rZ) xZ_ok sZ_ok (g_inv sZ_ok xZ_ok h) (fun k => turnR_wk rZ_w k) fun k => by
          rw [turnR_wk rZ_w k]
          exact ⟨(wk_nn (turnR_ok rZ_w) k).1, Int.lt_trans (wk_nn (turnR_ok rZ_w) k).2 (by decide)⟩
        rw [srt_sZ, srt_xZ, txt_I] at z
        exact z
      refine gI fun H2 eH0 Qm qm => ?_
      -- Table({..})
      refine fun p1 np1 => fun p2 np2 => ?_
      have h2a : upd (upd H2 p1 (.dK [])) p2 (.dK []) p2 = some (.dK []) := upd_same
      refine ⟨h2a, rowA, rfl, by decide, fun p3 np3 => ?_⟩
      have h3a : upd (upd (upd (upd H2 p1 (.dK [])) p2 (.dK [])) p2 (.dK (mergeK [] rowA))) p3 (.dK []) p3 = some (.dK []) := upd_same
      refine ⟨h3a, rowB', rfl, by decide, ?_⟩
      have mA : mergeK [] rowA = rowA := by decide +kernel
      have mB : mergeK [] rowB' = rowB' := rfl
      rw [mA, mB]
      rw [mA] at np3
      have n12 : p1 ≠ p2 := fun z => by
        rw [← z, upd_same] at np2
        cases np2
      have n13 : p1 ≠ p3 := fun z => by
        rw [← z, upd_ne n12, upd_ne n12, upd_same] at np3
        cases np3
      have n23 : p2 ≠ p3 := fun z => by
        rw [← z, upd_same] at np3
        cases np3
      have nH2 : H2 p2 = none := by
        rw [upd_ne n12.symm] at np2
        exact np2
      have nH3 : H2 p3 = none := by
        rw [upd_ne n23.symm, upd_ne n23.symm, upd_ne n13.symm] at np3
        exact np3
      refine ⟨by rw [upd_ne n13, upd_ne n13, upd_ne n12, upd_ne n12, upd_same], [(Sum.inr "a", .ref p2), (Sum.inr "b", .ref p3)], rfl, by show 2 ≤ 15; decide, ?_⟩
      rw [merge_two (by decide +kernel)]
      have hT : ∀ Hx : Hp, Hx p2 = some (.dK rowA) → Hx p3 = some (.dK rowB') → Hx p1 = some (.dK [((Sum.inr "a" : Key), V.ref p2), ((Sum.inr "b" : Key), V.ref p3)]) → TabAt Hx p1 (tZ p2 p3) := fun Hx q2 q3 q1 => ⟨q1, fun t ht => by
        simp only [tZ, List.mem_cons, List.not_mem_nil, or_false] at ht
        rcases ht with rfl | rfl
        · exact q2
        · exact q3⟩
      have hT' := hT (upd (upd (upd (upd (upd (upd H2 p1 (.dK [])) p2 (.dK [])) p2 (.dK rowA)) p3 (.dK [])) p3 (.dK rowB')) p1 (.dK [((Sum.inr "a" : Key), V.ref p2), ((Sum.inr "b" : Key), V.ref p3)])) (by rw [upd_ne n12.symm, upd_ne n23, upd_ne n23, upd_same]) (by rw [upd_ne n13.symm, upd_same]) upd_same
      have eU : Ex H2 (upd (upd (upd (upd (upd (upd H2 p1 (.dK [])) p2 (.dK [])) p2 (.dK rowA)) p3 (.dK [])) p3 (.dK rowB')) p1 (.dK [((Sum.inr "a" : Key), V.ref p2), ((Sum.inr "b" : Key), V.ref p3)])) := fun b o hb => by
        rw [upd_ne (ne_of_none hb np1), upd_ne (ne_of_none hb nH3), upd_ne (ne_of_none hb nH3), upd_ne (ne_of_none hb nH2), upd_ne (ne_of_none hb nH2), upd_ne (ne_of_none hb np1)]
        exact hb
      generalize upd (upd (upd (upd (upd (upd H2 p1 (.dK [])) p2 (.dK [])) p2 (.dK rowA)) p3 (.dK [])) p3 (.dK rowB')) p1 (.dK [((Sum.inr "a" : Key), V.ref p2), ((Sum.inr "b" : Key), V.ref p3)]) = H3 at hT' eU ⊢
      clear hT h3a h2a np3 np2
      refine fun x dx nx ndx ne => ?_
      have e1 := Ex.new (o := .own x) ndx
      have nx2 : upd H3 dx (.own x) x = none := by
        rw [upd_ne ne.symm]
        exact nx
      have e2 := e1.trans (Ex.new (o := .ins C dx []) nx2)
      have hx : upd (upd H3 dx (.own x)) x (.ins C dx []) x = some (.ins C dx []) := upd_same
      have kx : ∀ b o, H3 b = some o → b ≠ x ∧ b ≠ dx := fun b o hb => ⟨ne_of_none hb nx, ne_of_none hb ndx⟩
      generalize upd (upd H3 dx (.own x)) x (.ins C dx []) = H4 at e2 hx ⊢
      have uz := tZ_uses p2 p3
      refine ⟨x, p1, aE, dx, tZ p2 p3, [], rfl, hx, hT'.ex e2, tZ_ok n23, (by show 2 ≤ 6; decide), .inr (hE _), (fun n hn => nomatch hn), by decide, by rw [uz]; decide, fun H5 k5 ta => ⟨rfl, ?_⟩⟩
      have tn : srt ((tZ p2 p3).map (·.1)) = srt sZ := rfl
      rw [uz, tZ_worths, tn, ← srt_xZ] at ta
      have tw : TabW C sZ xZ (wk rZ) (.ref x) H5 := ⟨x, rZ, rfl, ta, rZ_good, fun _ => rfl⟩
      exact qm _ H5 (fun b o hb => k5 b o (e2 _ _ (eU _ _ hb)) (kx b o (eU _ _ hb)).1) tw
    · rw [show y = _ from hy, show z = _ from hz]
      exact ⟨rfl, by rw [decide_eq_true rfl]; exact k' _ _ (Ex.refl _) rfl⟩
    · rw [show v = V.bl true from ev]
      exact q _
end
end K06

set_option Elab.async false
set_option linter.all false
set_option maxRecDepth 100000
set_option maxHeartbeats 4000000
/-! The facts of the text, put together. -/
namespace K06
open PySem PySem.Spec PyProof.Rows L2
def errM : Stmt := match top 10 with
  | .ClassDef _ _ _ body _ _ _ _ _ _ _ => body.getD 0 (.Pass ⟨0, 0, 0, 0⟩)
  | _ => .Pass ⟨0, 0, 0, 0⟩
theorem scErr : FnScope ["self", "what", "most"] ["self", "what", "most"] (defScope errM) := ⟨rfl, rfl, rfl, by decide +kernel, rfl, by decide +kernel, by decide +kernel⟩
/-- what the class of errors tells -/
def excB (K : PySem.W.Frag) (CL fE : Addr) : Bool :=
  decide (PySem.W.findIn K (.ref CL) "__getattribute__" = some (some (.builtin "BaseException.__getattribute__"))) && (decide (PySem.W.findIn K (.ref CL) "__getattr__" = some none) &&
  (decide (PySem.W.subIn K (.ref CL) (.type "BaseException") = some true) && (PySem.W.hasDictIn K CL && (decide (PySem.W.typeIn K (.ref CL) = some (.type "type")) && (PySem.W.keepIn K (.ref CL) && (decide (PySem.W.findIn K (.ref CL) "__setattr__" = some (some (.builtin "object.__setattr__"))) &&
  (decide (PySem.W.typeIn K (.ref fE) = some (.type "function")) && (decide (PySem.W.findIn K (.ref CL) "what" = some none) && (decide (PySem.W.findIn K (.ref CL) "most" = some none) && decide (PySem.W.exmOne K (.ref CL) (.ref CL) = some true))))))))))
theorem kwF_rel {vs : List V} {us : List Value} {zs : List V} {ws : List Value} (r1 : Vals vs us) (r2 : Vals zs ws) : Vals (kwF vs zs) (kwF us ws) := by
  cases r1 with
  | nil => cases r2 with
    | nil => exact .nil
    | cons a r2 => cases r2 with
      | nil => exact .nil
      | cons b r2 => cases r2 with
        | nil => exact .cons b (.cons a .nil)
        | cons _ _ => exact .nil
  | cons _ _ => exact .nil
theorem kwW_rel {vs : List V} {us : List Value} {zs : List V} {ws : List Value} (r1 : Vals vs us) (r2 : Vals zs ws) : Vals (kwW vs zs) (kwW us ws) := by
  cases r1 with
  | nil => exact .nil
  | cons x r1 => cases r1 with
    | cons _ _ => exact .nil
    | nil => cases r2 with
      | nil => exact .nil
      | cons a r2 => cases r2 with
        | nil => exact .nil
        | cons b r2 => cases r2 with
          | nil => exact .nil
          | cons c r2 => cases r2 with
            | nil => exact .cons x (.cons c (.cons b (.cons a .nil)))
            | cons _ _ => exact .nil
theorem and2 {a b : Bool} (h : (a && b) = true) : a = true ∧ b = true := Bool.and_eq_true_iff.mp h
theorem all_mk {P : Program} {w : World} {K : PySem.W.Frag} {h : Heap} {mg : Str → Option Value} {fa : Addr} (X : K.In h) (G : h.Ns mainGlobals mg) (hfa : mg "law" = some (.ref fa))
    {g0 : Addr} {Oc0 KV0 Dc0 Pm0 Cd0 Ct0 : Value} {Od0 An0 : Option Addr} {Sl0 : Array (Option Value)}
    {g1 : Addr} {Oc1 KV1 Dc1 Pm1 Cd1 Ct1 : Value} {Od1 An1 : Option Addr} {Sl1 : Array (Option Value)}
    {g2 : Addr} {Oc2 KV2 Dc2 Pm2 Cd2 Ct2 : Value} {Od2 An2 : Option Addr} {Sl2 : Array (Option Value)}
    {g3 : Addr} {Oc3 KV3 Dc3 Pm3 Cd3 Ct3 : Value} {Od3 An3 : Option Addr} {Sl3 : Array (Option Value)}
    {g4 : Addr} {Oc4 KV4 Dc4 Pm4 Cd4 Ct4 : Value} {Od4 An4 : Option Addr} {Sl4 : Array (Option Value)}
    {g5 : Addr} {Oc5 KV5 Dc5 Pm5 Cd5 Ct5 : Value} {Od5 An5 : Option Addr} {Sl5 : Array (Option Value)}
    {g6 : Addr} {Oc6 KV6 Dc6 Pm6 Cd6 Ct6 : Value} {Od6 An6 : Option Addr} {Sl6 : Array (Option Value)}
    {g7 : Addr} {Oc7 KV7 Dc7 Pm7 Cd7 Ct7 : Value} {Od7 An7 : Option Addr} {Sl7 : Array (Option Value)}
    {g8 : Addr} {Oc8 KV8 Dc8 Pm8 Cd8 Ct8 : Value} {Od8 An8 : Option Addr} {Sl8 : Array (Option Value)}
    {g9 : Addr} {Oc9 KV9 Dc9 Pm9 Cd9 Ct9 : Value} {Od9 An9 : Option Addr} {Sl9 : Array (Option Value)}
    {g10 : Addr} {Oc10 KV10 Dc10 Pm10 Cd10 Ct10 : Value} {Od10 An10 : Option Addr} {Sl10 : Array (Option Value)}
    {g11 : Addr} {Oc11 KV11 Dc11 Pm11 Cd11 Ct11 : Value} {Od11 An11 : Option Addr} {Sl11 : Array (Option Value)}
    {g12 : Addr} {Oc12 KV12 Dc12 Pm12 Cd12 Ct12 : Value} {Od12 An12 : Option Addr} {Sl12 : Array (Option Value)}
    {g13 : Addr} {Oc13 KV13 Dc13 Pm13 Cd13 Ct13 : Value} {Od13 An13 : Option Addr} {Sl13 : Array (Option Value)}
    {g14 : Addr} {Oc14 KV14 Dc14 Pm14 Cd14 Ct14 : Value} {Od14 An14 : Option Addr} {Sl14 : Array (Option Value)}
    {g15 : Addr} {Oc15 KV15 Dc15 Pm15 Cd15 Ct15 : Value} {Od15 An15 : Option Addr} {Sl15 : Array (Option Value)}
    {g16 : Addr} {Oc16 KV16 Dc16 Pm16 Cd16 Ct16 : Value} {Od16 An16 : Option Addr} {Sl16 : Array (Option Value)}
    {g17 : Addr} {Oc17 KV17 Dc17 Pm17 Cd17 Ct17 : Value} {Od17 An17 : Option Addr} {Sl17 : Array (Option Value)}
    {g18 : Addr} {Oc18 KV18 Dc18 Pm18 Cd18 Ct18 : Value} {Od18 An18 : Option Addr} {Sl18 : Array (Option Value)}
    {g19 : Addr} {Oc19 KV19 Dc19 Pm19 Cd19 Ct19 : Value} {Od19 An19 : Option Addr} {Sl19 : Array (Option Value)}
    {g20 : Addr} {Oc20 KV20 Dc20 Pm20 Cd20 Ct20 : Value} {Od20 An20 : Option Addr} {Sl20 : Array (Option Value)}
    {g21 : Addr} {Oc21 KV21 Dc21 Pm21 Cd21 Ct21 : Value} {Od21 An21 : Option Addr} {Sl21 : Array (Option Value)}
    {g22 : Addr} {Oc22 KV22 Dc22 Pm22 Cd22 Ct22 : Value} {Od22 An22 : Option Addr} {Sl22 : Array (Option Value)}
    {g23 : Addr} {Oc23 KV23 Dc23 Pm23 Cd23 Ct23 : Value} {Od23 An23 : Option Addr} {Sl23 : Array (Option Value)}
    {g24 : Addr} {Oc24 KV24 Dc24 Pm24 Cd24 Ct24 : Value} {Od24 An24 : Option Addr} {Sl24 : Array (Option Value)}
    {g25 : Addr} {Oc25 KV25 Dc25 Pm25 Cd25 Ct25 : Value} {Od25 An25 : Option Addr} {Sl25 : Array (Option Value)}
    {g26 : Addr} {Oc26 KV26 Dc26 Pm26 Cd26 Ct26 : Value} {Od26 An26 : Option Addr} {Sl26 : Array (Option Value)}
    {g27 : Addr} {Oc27 KV27 Dc27 Pm27 Cd27 Ct27 : Value} {Od27 An27 : Option Addr} {Sl27 : Array (Option Value)}
    {gI : Addr} {OcI KVI DcI PmI CdI CtI : Value} {OdI AnI : Option Addr} {SlI : Array (Option Value)} {TI : Addr} {cTI : Value} {dTI : Option Addr} {nTI : Nat} {sTI : Array (Option Value)}
    {tL t1 t2 t6 : Tok} {aN : Addr} {dN : Option Addr} {nN : Nat} {sN : Array (Option Value)}
    {CX_ fE : Addr} {nmE qE : Str} {NE : Addr} {bsE bmE : List Value} {snE : List Str} {subE : List Value} {abE : Bool} {colE : Option Bool} {ddE : Option Addr} {m0E m1E m2E m3E m5E : Option Value} {ocE kVE dcE pmE cdE ctE : Value} {odE anE : Option Addr} {slE : Array (Option Value)}
    {C fi aE TE : Addr} {oci kVi dci pmi cdi cti : Value} {odi ani dE : Option Addr} {sli sE : Array (Option Value)} {nE : Nat} {cTE : Value} {dTE : Option Addr} {nTE : Nat} {sTE : Array (Option Value)}
    {f0 : Addr} {oc0 kV0 dc0 pm0 cd0 ct0 : Value} {od0 an0 : Option Addr} {sl0 : Array (Option Value)}
    {f1 : Addr} {oc1 kV1 dc1 pm1 cd1 ct1 : Value} {od1 an1 : Option Addr} {sl1 : Array (Option Value)}
    {f2 : Addr} {oc2 kV2 dc2 pm2 cd2 ct2 : Value} {od2 an2 : Option Addr} {sl2 : Array (Option Value)}
    {f3 : Addr} {oc3 kV3 dc3 pm3 cd3 ct3 : Value} {od3 an3 : Option Addr} {sl3 : Array (Option Value)}
    {f4 : Addr} {oc4 kV4 dc4 pm4 cd4 ct4 : Value} {od4 an4 : Option Addr} {sl4 : Array (Option Value)}
    {f5 : Addr} {oc5 kV5 dc5 pm5 cd5 ct5 : Value} {od5 an5 : Option Addr} {sl5 : Array (Option Value)}
    {pF gF TF : Addr} {rF : List Value} {ocF kVF dcF pmF cdF ctF : Value} {odF anF : Option Addr} {slF : Array (Option Value)} {tF : Tok} {cTF : Value} {dTF : Option Addr} {nTF : Nat} {sTF : Array (Option Value)}
    {pR gR : Addr} {rR : List Value} {ocR kVR dcR pmR cdR ctR : Value} {odR anR : Option Addr} {slR : Array (Option Value)}
    (A0 : PySem.W.nsIn K mainGlobals "is_amount" = some (some (.ref g0)))
    (L0 : K.lookup g0 = some ⟨Oc0, Od0, .func (PySem.W.fnOf "is_amount" "is_amount" (defArgs Fk.sAmount) (defBody Fk.sAmount) (defScope Fk.sAmount) .none KV0 Dc0 Pm0 An0 Cd0 Ct0), Sl0⟩)
    (D0 : PySem.W.codeIn K Cd0 "is_amount" = true)
    (E0 : PySem.W.keepIn K (.ref g0) = true)
    (A1 : PySem.W.nsIn K mainGlobals "is_name" = some (some (.ref g1)))
    (L1 : K.lookup g1 = some ⟨Oc1, Od1, .func (PySem.W.fnOf "is_name" "is_name" (defArgs Fk.sName) (defBody Fk.sName) (defScope Fk.sName) .none KV1 Dc1 Pm1 An1 Cd1 Ct1), Sl1⟩)
    (D1 : PySem.W.codeIn K Cd1 "is_name" = true)
    (E1 : PySem.W.keepIn K (.ref g1) = true)
    (A2 : PySem.W.nsIn K mainGlobals "check_names" = some (some (.ref g2)))
    (L2 : K.lookup g2 = some ⟨Oc2, Od2, .func (PySem.W.fnOf "check_names" "check_names" (defArgs Fk.sNames) (defBody Fk.sNames) (defScope Fk.sNames) .none KV2 Dc2 Pm2 An2 Cd2 Ct2), Sl2⟩)
    (D2 : PySem.W.codeIn K Cd2 "check_names" = true)
    (E2 : PySem.W.keepIn K (.ref g2) = true)
    (A3 : PySem.W.nsIn K mainGlobals "number_text" = some (some (.ref g3)))
    (L3 : K.lookup g3 = some ⟨Oc3, Od3, .func (PySem.W.fnOf "number_text" "number_text" (defArgs Fk.sNum) (defBody Fk.sNum) (defScope Fk.sNum) .none KV3 Dc3 Pm3 An3 Cd3 Ct3), Sl3⟩)
    (D3 : PySem.W.codeIn K Cd3 "number_text" = true)
    (E3 : PySem.W.keepIn K (.ref g3) = true)
    (A4 : PySem.W.nsIn K mainGlobals "check_worths" = some (some (.ref g4)))
    (L4 : K.lookup g4 = some ⟨Oc4, Od4, .func (PySem.W.fnOf "check_worths" "check_worths" (defArgs Fk.sAmounts) (defBody Fk.sAmounts) (defScope Fk.sAmounts) .none KV4 Dc4 Pm4 An4 Cd4 Ct4), Sl4⟩)
    (D4 : PySem.W.codeIn K Cd4 "check_worths" = true)
    (E4 : PySem.W.keepIn K (.ref g4) = true)
    (A5 : PySem.W.nsIn K mainGlobals "is_pair" = some (some (.ref g5)))
    (L5 : K.lookup g5 = some ⟨Oc5, Od5, .func (PySem.W.fnOf "is_pair" "is_pair" (defArgs Fk.sPair) (defBody Fk.sPair) (defScope Fk.sPair) .none KV5 Dc5 Pm5 An5 Cd5 Ct5), Sl5⟩)
    (D5 : PySem.W.codeIn K Cd5 "is_pair" = true)
    (E5 : PySem.W.keepIn K (.ref g5) = true)
    (A6 : PySem.W.nsIn K mainGlobals "is_row" = some (some (.ref g6)))
    (L6 : K.lookup g6 = some ⟨Oc6, Od6, .func (PySem.W.fnOf "is_row" "is_row" (defArgs Fk.sRow) (defBody Fk.sRow) (defScope Fk.sRow) .none KV6 Dc6 Pm6 An6 Cd6 Ct6), Sl6⟩)
    (D6 : PySem.W.codeIn K Cd6 "is_row" = true)
    (E6 : PySem.W.keepIn K (.ref g6) = true)
    (A7 : PySem.W.nsIn K mainGlobals "ascending" = some (some (.ref g7)))
    (L7 : K.lookup g7 = some ⟨Oc7, Od7, .func (PySem.W.fnOf "ascending" "ascending" (defArgs Tb.sAsc) (defBody Tb.sAsc) (defScope Tb.sAsc) .none KV7 Dc7 Pm7 An7 Cd7 Ct7), Sl7⟩)
    (D7 : PySem.W.codeIn K Cd7 "ascending" = true)
    (E7 : PySem.W.keepIn K (.ref g7) = true)
    (A8 : PySem.W.nsIn K mainGlobals "unlike" = some (some (.ref g8)))
    (L8 : K.lookup g8 = some ⟨Oc8, Od8, .func (PySem.W.fnOf "unlike" "unlike" (defArgs Tb.sUnlike) (defBody Tb.sUnlike) (defScope Tb.sUnlike) .none KV8 Dc8 Pm8 An8 Cd8 Ct8), Sl8⟩)
    (D8 : PySem.W.codeIn K Cd8 "unlike" = true)
    (E8 : PySem.W.keepIn K (.ref g8) = true)
    (A9 : PySem.W.nsIn K mainGlobals "joined" = some (some (.ref g9)))
    (L9 : K.lookup g9 = some ⟨Oc9, Od9, .func (PySem.W.fnOf "joined" "joined" (defArgs Tb.sJoined) (defBody Tb.sJoined) (defScope Tb.sJoined) .none KV9 Dc9 Pm9 An9 Cd9 Ct9), Sl9⟩)
    (D9 : PySem.W.codeIn K Cd9 "joined" = true)
    (E9 : PySem.W.keepIn K (.ref g9) = true)
    (A10 : PySem.W.nsIn K mainGlobals "check_table" = some (some (.ref g10)))
    (L10 : K.lookup g10 = some ⟨Oc10, Od10, .func (PySem.W.fnOf "check_table" "check_table" (defArgs Tb.sCheck) (defBody Tb.sCheck) (defScope Tb.sCheck) .none KV10 Dc10 Pm10 An10 Cd10 Ct10), Sl10⟩)
    (D10 : PySem.W.codeIn K Cd10 "check_table" = true)
    (E10 : PySem.W.keepIn K (.ref g10) = true)
    (A11 : PySem.W.nsIn K mainGlobals "check_other" = some (some (.ref g11)))
    (L11 : K.lookup g11 = some ⟨Oc11, Od11, .func (PySem.W.fnOf "check_other" "check_other" (defArgs Tb.sTOther) (defBody Tb.sTOther) (defScope Tb.sTOther) .none KV11 Dc11 Pm11 An11 Cd11 Ct11), Sl11⟩)
    (D11 : PySem.W.codeIn K Cd11 "check_other" = true)
    (E11 : PySem.W.keepIn K (.ref g11) = true)
    (A12 : PySem.W.nsIn K mainGlobals "row_text" = some (some (.ref g12)))
    (L12 : K.lookup g12 = some ⟨Oc12, Od12, .func (PySem.W.fnOf "row_text" "row_text" (defArgs Tb.sRowT) (defBody Tb.sRowT) (defScope Tb.sRowT) .none KV12 Dc12 Pm12 An12 Cd12 Ct12), Sl12⟩)
    (D12 : PySem.W.codeIn K Cd12 "row_text" = true)
    (E12 : PySem.W.keepIn K (.ref g12) = true)
    (A13 : PySem.W.nsIn K mainGlobals "_law_pen" = some (some (.ref g13)))
    (L13 : K.lookup g13 = some ⟨Oc13, Od13, .func (PySem.W.fnOf "_law_pen" "_law_pen" (defArgs K06.sPen) (defBody K06.sPen) (defScope K06.sPen) .none KV13 Dc13 Pm13 An13 Cd13 Ct13), Sl13⟩)
    (D13 : PySem.W.codeIn K Cd13 "_law_pen" = true)
    (E13 : PySem.W.keepIn K (.ref g13) = true)
    (A14 : PySem.W.nsIn K mainGlobals "_law_draw" = some (some (.ref g14)))
    (L14 : K.lookup g14 = some ⟨Oc14, Od14, .func (PySem.W.fnOf "_law_draw" "_law_draw" (defArgs K06.sDraw) (defBody K06.sDraw) (defScope K06.sDraw) .none KV14 Dc14 Pm14 An14 Cd14 Ct14), Sl14⟩)
    (D14 : PySem.W.codeIn K Cd14 "_law_draw" = true)
    (E14 : PySem.W.keepIn K (.ref g14) = true)
    (A15 : PySem.W.nsIn K mainGlobals "_law_pick" = some (some (.ref g15)))
    (L15 : K.lookup g15 = some ⟨Oc15, Od15, .func (PySem.W.fnOf "_law_pick" "_law_pick" (defArgs K06.sPick) (defBody K06.sPick) (defScope K06.sPick) .none KV15 Dc15 Pm15 An15 Cd15 Ct15), Sl15⟩)
    (D15 : PySem.W.codeIn K Cd15 "_law_pick" = true)
    (E15 : PySem.W.keepIn K (.ref g15) = true)
    (A16 : PySem.W.nsIn K mainGlobals "_law_plain" = some (some (.ref g16)))
    (L16 : K.lookup g16 = some ⟨Oc16, Od16, .func (PySem.W.fnOf "_law_plain" "_law_plain" (defArgs K06.sPlain) (defBody K06.sPlain) (defScope K06.sPlain) .none KV16 Dc16 Pm16 An16 Cd16 Ct16), Sl16⟩)
    (D16 : PySem.W.codeIn K Cd16 "_law_plain" = true)
    (E16 : PySem.W.keepIn K (.ref g16) = true)
    (A17 : PySem.W.nsIn K mainGlobals "_law_names" = some (some (.ref g17)))
    (L17 : K.lookup g17 = some ⟨Oc17, Od17, .func (PySem.W.fnOf "_law_names" "_law_names" (defArgs K06.sNms) (defBody K06.sNms) (defScope K06.sNms) .none KV17 Dc17 Pm17 An17 Cd17 Ct17), Sl17⟩)
    (D17 : PySem.W.codeIn K Cd17 "_law_names" = true)
    (E17 : PySem.W.keepIn K (.ref g17) = true)
    (A18 : PySem.W.nsIn K mainGlobals "_law_rows" = some (some (.ref g18)))
    (L18 : K.lookup g18 = some ⟨Oc18, Od18, .func (PySem.W.fnOf "_law_rows" "_law_rows" (defArgs K06.sRows) (defBody K06.sRows) (defScope K06.sRows) .none KV18 Dc18 Pm18 An18 Cd18 Ct18), Sl18⟩)
    (D18 : PySem.W.codeIn K Cd18 "_law_rows" = true)
    (E18 : PySem.W.keepIn K (.ref g18) = true)
    (A19 : PySem.W.nsIn K mainGlobals "_law_made" = some (some (.ref g19)))
    (L19 : K.lookup g19 = some ⟨Oc19, Od19, .func (PySem.W.fnOf "_law_made" "_law_made" (defArgs K06.sMade) (defBody K06.sMade) (defScope K06.sMade) .none KV19 Dc19 Pm19 An19 Cd19 Ct19), Sl19⟩)
    (D19 : PySem.W.codeIn K Cd19 "_law_made" = true)
    (E19 : PySem.W.keepIn K (.ref g19) = true)
    (A20 : PySem.W.nsIn K mainGlobals "_law_is" = some (some (.ref g20)))
    (L20 : K.lookup g20 = some ⟨Oc20, Od20, .func (PySem.W.fnOf "_law_is" "_law_is" (defArgs K06.sIs5) (defBody K06.sIs5) (defScope K06.sIs5) .none KV20 Dc20 Pm20 An20 Cd20 Ct20), Sl20⟩)
    (D20 : PySem.W.codeIn K Cd20 "_law_is" = true)
    (E20 : PySem.W.keepIn K (.ref g20) = true)
    (A21 : PySem.W.nsIn K mainGlobals "_law_worth_right" = some (some (.ref g21)))
    (L21 : K.lookup g21 = some ⟨Oc21, Od21, .func (PySem.W.fnOf "_law_worth_right" "_law_worth_right" (defArgs K06.sWthr) (defBody K06.sWthr) (defScope K06.sWthr) .none KV21 Dc21 Pm21 An21 Cd21 Ct21), Sl21⟩)
    (D21 : PySem.W.codeIn K Cd21 "_law_worth_right" = true)
    (E21 : PySem.W.keepIn K (.ref g21) = true)
    (A22 : PySem.W.nsIn K mainGlobals "_law_struck" = some (some (.ref g22)))
    (L22 : K.lookup g22 = some ⟨Oc22, Od22, .func (PySem.W.fnOf "_law_struck" "_law_struck" (defArgs K06.sStruck) (defBody K06.sStruck) (defScope K06.sStruck) .none KV22 Dc22 Pm22 An22 Cd22 Ct22), Sl22⟩)
    (D22 : PySem.W.codeIn K Cd22 "_law_struck" = true)
    (E22 : PySem.W.keepIn K (.ref g22) = true)
    (A23 : PySem.W.nsIn K mainGlobals "_law_without_right" = some (some (.ref g23)))
    (L23 : K.lookup g23 = some ⟨Oc23, Od23, .func (PySem.W.fnOf "_law_without_right" "_law_without_right" (defArgs K06.sWor) (defBody K06.sWor) (defScope K06.sWor) .none KV23 Dc23 Pm23 An23 Cd23 Ct23), Sl23⟩)
    (D23 : PySem.W.codeIn K Cd23 "_law_without_right" = true)
    (E23 : PySem.W.keepIn K (.ref g23) = true)
    (A24 : PySem.W.nsIn K mainGlobals "_law_flat_right" = some (some (.ref g24)))
    (L24 : K.lookup g24 = some ⟨Oc24, Od24, .func (PySem.W.fnOf "_law_flat_right" "_law_flat_right" (defArgs K06.sFlr) (defBody K06.sFlr) (defScope K06.sFlr) .none KV24 Dc24 Pm24 An24 Cd24 Ct24), Sl24⟩)
    (D24 : PySem.W.codeIn K Cd24 "_law_flat_right" = true)
    (E24 : PySem.W.keepIn K (.ref g24) = true)
    (A25 : PySem.W.nsIn K mainGlobals "_law_rated_right" = some (some (.ref g25)))
    (L25 : K.lookup g25 = some ⟨Oc25, Od25, .func (PySem.W.fnOf "_law_rated_right" "_law_rated_right" (defArgs K06.sRtd) (defBody K06.sRtd) (defScope K06.sRtd) .none KV25 Dc25 Pm25 An25 Cd25 Ct25), Sl25⟩)
    (D25 : PySem.W.codeIn K Cd25 "_law_rated_right" = true)
    (E25 : PySem.W.keepIn K (.ref g25) = true)
    (A26 : PySem.W.nsIn K mainGlobals "_law_turned_right" = some (some (.ref g26)))
    (L26 : K.lookup g26 = some ⟨Oc26, Od26, .func (PySem.W.fnOf "_law_turned_right" "_law_turned_right" (defArgs K06.sTurn) (defBody K06.sTurn) (defScope K06.sTurn) .none KV26 Dc26 Pm26 An26 Cd26 Ct26), Sl26⟩)
    (D26 : PySem.W.codeIn K Cd26 "_law_turned_right" = true)
    (E26 : PySem.W.keepIn K (.ref g26) = true)
    (A27 : PySem.W.nsIn K mainGlobals "law" = some (some (.ref g27)))
    (L27 : K.lookup g27 = some ⟨Oc27, Od27, .func (PySem.W.fnOf "law" "law" (defArgs K06.sLaw7) (defBody K06.sLaw7) (defScope K06.sLaw7) .none KV27 Dc27 Pm27 An27 Cd27 Ct27), Sl27⟩)
    (D27 : PySem.W.codeIn K Cd27 "law" = true)
    (E27 : PySem.W.keepIn K (.ref g27) = true)
    (AI : PySem.W.nsIn K mainGlobals "is_integer" = some (some (.ref gI)))
    (LI : K.lookup gI = some ⟨OcI, OdI, .func (PySem.W.fnOf "is_integer" "is_integer" (defArgs Fk.sInteger) (defBody Fk.sInteger) (defScope Fk.sInteger) (.ref TI) KVI DcI PmI AnI CdI CtI), SlI⟩)
    (DI : PySem.W.codeIn K CdI "is_integer" = true)
    (EI : PySem.W.keepIn K (.ref gI) = true)
    (TIl : K.lookup TI = some ⟨cTI, dTI, .seq #[Value.none] nTI, sTI⟩)
    (ALN : PySem.W.nsIn K mainGlobals "LONGEST_NAME" = some (some (.int 8 tL)))
    (AMN : PySem.W.nsIn K mainGlobals "MOST_NAMES" = some (some (.int 6 t6)))
    (ANN : PySem.W.nsIn K mainGlobals "NO_NAMES" = some (some (.ref aN)))
    (LN : K.lookup aN = some ⟨.type "tuple", dN, .seq #[Value.str "none" t1, Value.str "self" t2] nN, sN⟩)
    (AK : PySem.W.nsIn K mainGlobals "TooMany" = some (some (.ref CX_)))
    (xL : K.lookup CX_ = some (excClassObj nmE qE CX_ NE bsE bmE true snE subE abE colE ddE m0E m1E m2E m3E m5E "ValueError.__new__"))
    (hmE : PySem.HandSPX.refsVE bmE = true)
    (aE_ : PySem.W.findIn K (.ref CX_) "__init__" = some (some (.ref fE)))
    (lE : K.lookup fE = some ⟨ocE, odE, .func (PySem.W.fnOf "__init__" "TooMany.__init__" (defArgs errM) (defBody errM) (defScope errM) .none kVE dcE pmE anE cdE ctE), slE⟩)
    (cE : PySem.W.codeIn K cdE "TooMany.__init__" = true)
    (kE : PySem.W.keepIn K (.ref fE) = true)
    (bE : excB K CX_ fE = true)
    (AC : PySem.W.nsIn K mainGlobals "Table" = some (some (.ref C)))
    (ai : PySem.W.findIn K (.ref C) "__init__" = some (some (.ref fi)))
    (li : K.lookup fi = some ⟨oci, odi, .func (PySem.W.fnOf "__init__" "Table.__init__" (defArgs (Tb.tmeth 0)) (defBody (Tb.tmeth 0)) (defScope (Tb.tmeth 0)) (.ref TE) kVi dci pmi ani cdi cti), sli⟩)
    (ci : PySem.W.codeIn K cdi "Table.__init__" = true)
    (ki : PySem.W.keepIn K (.ref fi) = true)
    (ni : PySem.W.isFn K (.ref fi) = true)
    (TEl : K.lookup TE = some ⟨cTE, dTE, .seq #[Value.ref aE] nTE, sTE⟩)
    (El : K.lookup aE = some ⟨.type "tuple", dE, .seq #[] nE, sE⟩)
    (a0 : PySem.W.findIn K (.ref C) "__getitem__" = some (some (.ref f0)))
    (l0 : K.lookup f0 = some ⟨oc0, od0, .func (PySem.W.fnOf "__getitem__" "Table.__getitem__" (defArgs (Tb.tmeth 4)) (defBody (Tb.tmeth 4)) (defScope (Tb.tmeth 4)) .none kV0 dc0 pm0 an0 cd0 ct0), sl0⟩)
    (c0 : PySem.W.codeIn K cd0 "Table.__getitem__" = true)
    (k0 : PySem.W.keepIn K (.ref f0) = true)
    (n0 : PySem.W.isFn K (.ref f0) = true)
    (i0 : PySem.W.fnIn K f0 = true)
    (a1 : PySem.W.findIn K (.ref C) "__invert__" = some (some (.ref f1)))
    (l1 : K.lookup f1 = some ⟨oc1, od1, .func (PySem.W.fnOf "__invert__" "Table.__invert__" (defArgs (Tb.tmeth 14)) (defBody (Tb.tmeth 14)) (defScope (Tb.tmeth 14)) .none kV1 dc1 pm1 an1 cd1 ct1), sl1⟩)
    (c1 : PySem.W.codeIn K cd1 "Table.__invert__" = true)
    (k1 : PySem.W.keepIn K (.ref f1) = true)
    (n1 : PySem.W.isFn K (.ref f1) = true)
    (a2 : PySem.W.findIn K (.ref C) "__eq__" = some (some (.ref f2)))
    (l2 : K.lookup f2 = some ⟨oc2, od2, .func (PySem.W.fnOf "__eq__" "Table.__eq__" (defArgs (Tb.tmeth 19)) (defBody (Tb.tmeth 19)) (defScope (Tb.tmeth 19)) .none kV2 dc2 pm2 an2 cd2 ct2), sl2⟩)
    (c2 : PySem.W.codeIn K cd2 "Table.__eq__" = true)
    (k2 : PySem.W.keepIn K (.ref f2) = true)
    (n2 : PySem.W.isFn K (.ref f2) = true)
    (a3 : PySem.W.findIn K (.ref C) "__str__" = some (some (.ref f3)))
    (l3 : K.lookup f3 = some ⟨oc3, od3, .func (PySem.W.fnOf "__str__" "Table.__str__" (defArgs (Tb.tmeth 24)) (defBody (Tb.tmeth 24)) (defScope (Tb.tmeth 24)) .none kV3 dc3 pm3 an3 cd3 ct3), sl3⟩)
    (c3 : PySem.W.codeIn K cd3 "Table.__str__" = true)
    (k3 : PySem.W.keepIn K (.ref f3) = true)
    (n3 : PySem.W.isFn K (.ref f3) = true)
    (a4 : PySem.W.findIn K (.ref C) "with_worth" = some (some (.ref f4)))
    (l4 : K.lookup f4 = some ⟨oc4, od4, .func (PySem.W.fnOf "with_worth" "Table.with_worth" (defArgs (Tb.tmeth 20)) (defBody (Tb.tmeth 20)) (defScope (Tb.tmeth 20)) .none kV4 dc4 pm4 an4 cd4 ct4), sl4⟩)
    (c4 : PySem.W.codeIn K cd4 "Table.with_worth" = true)
    (k4 : PySem.W.keepIn K (.ref f4) = true)
    (n4 : PySem.W.isFn K (.ref f4) = true)
    (a5 : PySem.W.findIn K (.ref C) "without" = some (some (.ref f5)))
    (l5 : K.lookup f5 = some ⟨oc5, od5, .func (PySem.W.fnOf "without" "Table.without" (defArgs (Tb.tmeth 21)) (defBody (Tb.tmeth 21)) (defScope (Tb.tmeth 21)) .none kV5 dc5 pm5 an5 cd5 ct5), sl5⟩)
    (c5 : PySem.W.codeIn K cd5 "Table.without" = true)
    (k5 : PySem.W.keepIn K (.ref f5) = true)
    (n5 : PySem.W.isFn K (.ref f5) = true)
    (aF : PySem.W.findCls K (.ref C) (.type "type") "flat" = some (.get (.builtin "staticmethod.__get__") (.ref pF) .none (.ref C)))
    (rcF : PySem.W.recIn K pF "staticmethod" = some (.ref gF :: rF))
    (lF : K.lookup gF = some ⟨ocF, odF, .func (PySem.W.fnOf "flat" "Table.flat" (defArgs K06.sFlat) (defBody K06.sFlat) (defScope K06.sFlat) (.ref TF) kVF dcF pmF anF cdF ctF), slF⟩)
    (cF : PySem.W.codeIn K cdF "Table.flat" = true)
    (kF : PySem.W.keepIn K (.ref gF) = true)
    (TFl : K.lookup TF = some ⟨cTF, dTF, .seq #[Value.int 1 tF] nTF, sTF⟩)
    (aR : PySem.W.findCls K (.ref C) (.type "type") "rated" = some (.get (.builtin "staticmethod.__get__") (.ref pR) .none (.ref C)))
    (rcR : PySem.W.recIn K pR "staticmethod" = some (.ref gR :: rR))
    (lR : K.lookup gR = some ⟨ocR, odR, .func (PySem.W.fnOf "rated" "Table.rated" (defArgs K06.sRat) (defBody K06.sRat) (defScope K06.sRat) .none kVR dcR pmR anR cdR ctR), slR⟩)
    (cR : PySem.W.codeIn K cdR "Table.rated" = true)
    (kR : PySem.W.keepIn K (.ref gR) = true)
    (q_rd : PySem.W.readsIn K C (.type "type") = true)
    (q_ga : PySem.W.specialIn K (.ref C) "__getattribute__" = some (some (.builtin "type.__getattribute__")))
    (q_pg : PySem.W.plainGet K C Str.empty = true)
    (q_hd : PySem.W.hasDictIn K C = true)
    (q_po : PySem.W.plainOver K C = true)
    (q_sa : PySem.W.findIn K (.ref C) "__setattr__" = some (some (.builtin "object.__setattr__")))
    (q_nS : PySem.W.findIn K (.ref C) "sources" = some none)
    (q_nU : PySem.W.findIn K (.ref C) "uses" = some none)
    (q_nW : PySem.W.findIn K (.ref C) "_worths" = some none)
    (q_nP : PySem.W.findIn K (.ref C) "pairs" = some none)
    (q_ha : PySem.W.findIn K (.ref C) "__class__" = some (some (.builtin "object.__class__")))
    (q_hn : PySem.W.specialIn K (.builtin "object.__class__") "__get__" = some (some (.builtin "getset_descriptor.__get__")))
    (q_htk : PySem.W.takesIn K (.builtin "object.__class__") = some true)
    (q_hm : PySem.W.mroIn K C (.type "object") = some true)
    (q_mk : PySem.W.makesIn K C = true)
    (q_kp : PySem.W.keepIn K (.ref C) = true)
    (q_ne : PySem.W.findIn K (.ref C) "__ne__" = some (some (.builtin "object.__ne__")))
    (z_isinstance : PySem.W.nsIn K mainGlobals "isinstance" = some none)
    (z_int : PySem.W.nsIn K mainGlobals "int" = some none)
    (z_bool : PySem.W.nsIn K mainGlobals "bool" = some none)
    (z_str : PySem.W.nsIn K mainGlobals "str" = some none)
    (z_len : PySem.W.nsIn K mainGlobals "len" = some none)
    (z_sorted : PySem.W.nsIn K mainGlobals "sorted" = some none)
    (z_tuple : PySem.W.nsIn K mainGlobals "tuple" = some none)
    (z_sum : PySem.W.nsIn K mainGlobals "sum" = some none)
    (z_list : PySem.W.nsIn K mainGlobals "list" = some none)
    (z_dict : PySem.W.nsIn K mainGlobals "dict" = some none)
    (z_range : PySem.W.nsIn K mainGlobals "range" = some none)
    (z_abs : PySem.W.nsIn K mainGlobals "abs" = some none)
    (z_all : PySem.W.nsIn K mainGlobals "all" = some none)
    (z_repr : PySem.W.nsIn K mainGlobals "repr" = some none) :
    ∃ fd : FuncData, (∀ (s : Shared) (u : Value), BindsTo s fd ⟨[u], []⟩ [("script", u)]) ∧ ∀ base : Heap, K.In base → base.Ns mainGlobals mg → XG.FnG P w K mg base CX0 9 fa fd ["script"] (spLaw7 K) := by
  have e := hfa.symm.trans (PySem.W.mg_of X G A27)
  cases e
  have F0 := fun_mk (st := Fk.sAmount) L0 D0 E0
  have F1 := fun_mk (st := Fk.sName) L1 D1 E1
  have F2 := fun_mk (st := Fk.sNames) L2 D2 E2
  have F3 := fun_mk (st := Fk.sNum) L3 D3 E3
  have F4 := fun_mk (st := Fk.sAmounts) L4 D4 E4
  have F5 := fun_mk (st := Fk.sPair) L5 D5 E5
  have F6 := fun_mk (st := Fk.sRow) L6 D6 E6
  have F7 := fun_mk (st := Tb.sAsc) L7 D7 E7
  have F8 := fun_mk (st := Tb.sUnlike) L8 D8 E8
  have F9 := fun_mk (st := Tb.sJoined) L9 D9 E9
  have F10 := fun_mk (st := Tb.sCheck) L10 D10 E10
  have F11 := fun_mk (st := Tb.sTOther) L11 D11 E11
  have F12 := fun_mk (st := Tb.sRowT) L12 D12 E12
  have F13 := fun_mk (st := K06.sPen) L13 D13 E13
  have F14 := fun_mk (st := K06.sDraw) L14 D14 E14
  have F15 := fun_mk (st := K06.sPick) L15 D15 E15
  have F16 := fun_mk (st := K06.sPlain) L16 D16 E16
  have F17 := fun_mk (st := K06.sNms) L17 D17 E17
  have F18 := fun_mk (st := K06.sRows) L18 D18 E18
  have F19 := fun_mk (st := K06.sMade) L19 D19 E19
  have F20 := fun_mk (st := K06.sIs5) L20 D20 E20
  have F21 := fun_mk (st := K06.sWthr) L21 D21 E21
  have F22 := fun_mk (st := K06.sStruck) L22 D22 E22
  have F23 := fun_mk (st := K06.sWor) L23 D23 E23
  have F24 := fun_mk (st := K06.sFlr) L24 D24 E24
  have F25 := fun_mk (st := K06.sRtd) L25 D25 E25
  have F26 := fun_mk (st := K06.sTurn) L26 D26 E26
  have F27 := fun_mk (st := K06.sLaw7) L27 D27 E27
  have b0 := F0.binds (ps := ["value"]) fun _ _ _ _ _ _ us hl => match us, hl with | [_], _ => rfl
  have b1 := F1.binds (ps := ["value"]) fun _ _ _ _ _ _ us hl => match us, hl with | [_], _ => rfl
  have b2 := F2.binds (ps := ["values"]) fun _ _ _ _ _ _ us hl => match us, hl with | [_], _ => rfl
  have b3 := F3.binds (ps := ["number"]) fun _ _ _ _ _ _ us hl => match us, hl with | [_], _ => rfl
  have b4 := F4.binds (ps := ["values"]) fun _ _ _ _ _ _ us hl => match us, hl with | [_], _ => rfl
  have b5 := F5.binds (ps := ["value"]) fun _ _ _ _ _ _ us hl => match us, hl with | [_], _ => rfl
  have b6 := F6.binds (ps := ["value"]) fun _ _ _ _ _ _ us hl => match us, hl with | [_], _ => rfl
  have b7 := F7.binds (ps := ["values"]) fun _ _ _ _ _ _ us hl => match us, hl with | [_], _ => rfl
  have b8 := F8.binds (ps := ["names"]) fun _ _ _ _ _ _ us hl => match us, hl with | [_], _ => rfl
  have b9 := F9.binds (ps := ["one", "other"]) fun _ _ _ _ _ _ us hl => match us, hl with | [_, _], _ => rfl
  have b10 := F10.binds (ps := ["rows", "uses"]) fun _ _ _ _ _ _ us hl => match us, hl with | [_, _], _ => rfl
  have b11 := F11.binds (ps := ["other"]) fun _ _ _ _ _ _ us hl => match us, hl with | [_], _ => rfl
  have b12 := F12.binds (ps := ["table", "source"]) fun _ _ _ _ _ _ us hl => match us, hl with | [_, _], _ => rfl
  have b13 := F13.binds (ps := ["script"]) fun _ _ _ _ _ _ us hl => match us, hl with | [_], _ => rfl
  have b14 := F14.binds (ps := ["pen", "many"]) fun _ _ _ _ _ _ us hl => match us, hl with | [_, _], _ => rfl
  have b15 := F15.binds (ps := ["pen", "some"]) fun _ _ _ _ _ _ us hl => match us, hl with | [_, _], _ => rfl
  have b16 := F16.binds (ps := ["pen", "most"]) fun _ _ _ _ _ _ us hl => match us, hl with | [_, _], _ => rfl
  have b17 := F17.binds (ps := ["names_so"]) fun _ _ _ _ _ _ us hl => match us, hl with | [_], _ => rfl
  have b18 := F18.binds (ps := ["pen", "plain"]) fun _ _ _ _ _ _ us hl => match us, hl with | [_, _], _ => rfl
  have b19 := F19.binds (ps := ["pen", "plain"]) fun _ _ _ _ _ _ us hl => match us, hl with | [_, _], _ => rfl
  have b20 := F20.binds (ps := ["table", "plain"]) fun _ _ _ _ _ _ us hl => match us, hl with | [_, _], _ => rfl
  have b21 := F21.binds (ps := ["pen", "plain"]) fun _ _ _ _ _ _ us hl => match us, hl with | [_, _], _ => rfl
  have b22 := F22.binds (ps := ["plain", "gone"]) fun _ _ _ _ _ _ us hl => match us, hl with | [_, _], _ => rfl
  have b23 := F23.binds (ps := ["pen", "plain"]) fun _ _ _ _ _ _ us hl => match us, hl with | [_, _], _ => rfl
  have b24 := F24.binds (ps := ["pen", "plain"]) fun _ _ _ _ _ _ us hl => match us, hl with | [_, _], _ => rfl
  have b25 := F25.binds (ps := ["pen", "plain"]) fun _ _ _ _ _ _ us hl => match us, hl with | [_, _], _ => rfl
  have b26 := F26.binds (ps := ["pen", "plain"]) fun _ _ _ _ _ _ us hl => match us, hl with | [_, _], _ => rfl
  have b27 := F27.binds (ps := ["script"]) fun _ _ _ _ _ _ us hl => match us, hl with | [_], _ => rfl
  have M0 := fun_mk (st := Tb.tmeth 4) l0 c0 k0
  have d0 := M0.binds (ps := ["self", "at"]) fun _ _ _ _ _ _ us hl => match us, hl with | [_, _], _ => rfl
  have M1 := fun_mk (st := Tb.tmeth 14) l1 c1 k1
  have d1 := M1.binds (ps := ["self"]) fun _ _ _ _ _ _ us hl => match us, hl with | [_], _ => rfl
  have M2 := fun_mk (st := Tb.tmeth 19) l2 c2 k2
  have d2 := M2.binds (ps := ["self", "other"]) fun _ _ _ _ _ _ us hl => match us, hl with | [_, _], _ => rfl
  have M3 := fun_mk (st := Tb.tmeth 24) l3 c3 k3
  have d3 := M3.binds (ps := ["self"]) fun _ _ _ _ _ _ us hl => match us, hl with | [_], _ => rfl
  have M4 := fun_mk (st := Tb.tmeth 20) l4 c4 k4
  have d4 := M4.binds (ps := ["self", "source", "use", "worth"]) fun _ _ _ _ _ _ us hl => match us, hl with | [_, _, _, _], _ => rfl
  have M5 := fun_mk (st := Tb.tmeth 21) l5 c5 k5
  have m : ∀ {x : Str} {v : Value}, PySem.W.nsIn K mainGlobals x = some (some v) → mg x = some v := fun h => PySem.W.mg_of X G h
  have z : ∀ {x : Str}, PySem.W.nsIn K mainGlobals x = some none → mg x = none := fun h => PySem.W.mg_none_of X G h
  have FI : FunD K "is_integer" "is_integer" (defArgs Fk.sInteger) (defBody Fk.sInteger) (defScope Fk.sInteger) [.non] [] gI (PySem.W.fnOf "is_integer" "is_integer" (defArgs Fk.sInteger) (defBody Fk.sInteger) (defScope Fk.sInteger) (.ref TI) KVI DcI PmI AnI CdI CtI) := ⟨⟨OcI, OdI, .ref TI, KVI, DcI, PmI, AnI, CdI, CtI, SlI, rfl, LI, DI, .inr ⟨by simp, TI, _, [Value.none], nTI, rfl, TIl, rfl, .cons rfl .nil⟩, .inl rfl⟩, EI⟩
  have bI : Binds K (PySem.W.fnOf "is_integer" "is_integer" (defArgs Fk.sInteger) (defBody Fk.sInteger) (defScope Fk.sInteger) (.ref TI) KVI DcI PmI AnI CdI CtI) ["value", "least"] [] := by
    obtain ⟨ds, rd, bd⟩ := FI.binds1 (ps := ["value", "least"]) 2 1 (by simp) rfl fun T kV doc pm an cdv ct us its hu hi => match us, its, hu, hi with | [_, _], [_], _, _ => ⟨_, rfl, rfl⟩
    cases rd
    exact bd
  have FT : FunD K "__init__" "Table.__init__" (defArgs Tb.sTI) (defBody Tb.sTI) (defScope Tb.sTI) [.ref aE] [] fi (PySem.W.fnOf "__init__" "Table.__init__" (defArgs Tb.sTI) (defBody Tb.sTI) (defScope Tb.sTI) (.ref TE) kVi dci pmi ani cdi cti) := ⟨⟨oci, odi, .ref TE, kVi, dci, pmi, ani, cdi, cti, sli, rfl, li, ci, .inr ⟨by simp, TE, _, [Value.ref aE], nTE, rfl, TEl, rfl, .cons rfl .nil⟩, .inl rfl⟩, ki⟩
  have bT : Binds K (PySem.W.fnOf "__init__" "Table.__init__" (defArgs Tb.sTI) (defBody Tb.sTI) (defScope Tb.sTI) (.ref TE) kVi dci pmi ani cdi cti) ["self", "rows", "uses"] [] := by
    obtain ⟨ds, rd, bd⟩ := FT.binds1 (ps := ["self", "rows", "uses"]) 3 1 (by simp) rfl fun T kV doc pm an cdv ct us its hu hi => match us, its, hu, hi with | [_, _, _], [_], _, _ => ⟨_, rfl, rfl⟩
    cases rd
    exact bd
  obtain ⟨dsT, rT, bT2⟩ := FT.binds1 (ps := ["self", "rows", "uses"]) 2 0 (by simp) rfl fun T kV doc pm an cdv ct us its hu hi => match us, its, hu, hi with | [_, _], [_], _, _ => ⟨_, rfl, rfl⟩
  have B : Fk.Blt mg := ⟨z z_isinstance, z z_int, z z_bool, z z_str, z z_len⟩
  have T2 : Fk.Blt2 mg := ⟨z z_sorted, z z_tuple, z z_sum⟩
  have T3 : K06.Blt mg := ⟨z z_int, z z_len, z z_abs, z z_list⟩
  have R : Fk.BltR mg := ⟨z z_list, z z_tuple⟩
  have gT := m AC
  have hN : ∀ H, SqT K H aN [.str "none", .str "self"] := fun H => .inr ⟨_, _, _, LN, rfl, rfl, by show 2 ≤ sizeLine; decide, .cons ⟨t1, rfl⟩ (.cons ⟨t2, rfl⟩ .nil)⟩
  have hE : ∀ H, SqT K H aE [] := fun H => .inr ⟨_, _, _, El, rfl, rfl, by show 0 ≤ sizeLine; decide, .nil⟩
  have S : Tb.TblC K C := ⟨⟨q_pg, q_hd, q_po, q_sa⟩, q_nS, q_nU, q_nW, q_nP⟩
  have SI : Tb.TblI K C := ⟨q_ha, q_hn, q_htk, q_hm⟩
  -- the error's class
  obtain ⟨u1, bE⟩ := and2 bE
  obtain ⟨u2, bE⟩ := and2 bE
  obtain ⟨u3, bE⟩ := and2 bE
  obtain ⟨u4, bE⟩ := and2 bE
  obtain ⟨u5, bE⟩ := and2 bE
  obtain ⟨u6, bE⟩ := and2 bE
  obtain ⟨u7, bE⟩ := and2 bE
  obtain ⟨u8, bE⟩ := and2 bE
  obtain ⟨u9, bE⟩ := and2 bE
  obtain ⟨u10, u11⟩ := and2 bE
  have ME := fun_mk (st := errM) lE cE kE
  have dE_ := ME.binds (ps := ["self", "what", "most"]) fun _ _ _ _ _ _ us hl => match us, hl with | [_, _, _], _ => rfl
  have oex : OexC K CX_ := ⟨⟨nmE, qE, NE, bsE, bmE, snE, subE, abE, colE, ddE, m0E, m1E, m2E, m3E, m5E, xL, hmE⟩, of_decide_eq_true u7, of_decide_eq_true u3, of_decide_eq_true u5, u6⟩
  -- the static method
  have FF : FunD K "flat" "Table.flat" (defArgs K06.sFlat) (defBody K06.sFlat) (defScope K06.sFlat) [.int 1] [] gF (PySem.W.fnOf "flat" "Table.flat" (defArgs K06.sFlat) (defBody K06.sFlat) (defScope K06.sFlat) (.ref TF) kVF dcF pmF anF cdF ctF) := ⟨⟨ocF, odF, .ref TF, kVF, dcF, pmF, anF, cdF, ctF, slF, rfl, lF, cF, .inr ⟨by simp, TF, _, [Value.int 1 tF], nTF, rfl, TFl, rfl, .cons ⟨tF, rfl⟩ .nil⟩, .inl rfl⟩, kF⟩
  obtain ⟨dsF, rF2, bF⟩ := FF.binds1 (ps := ["scopes", "worth"]) 1 0 (by simp) rfl fun T kV doc pm an cdv ct us its hu hi => match us, its, hu, hi with | [_], [_], _, _ => ⟨_, rfl, rfl⟩
  have RC : ClX.CRead K C (.type "type") := ⟨q_rd, q_ga⟩
  have SM : SMet K C (.type "type") "flat" pF gF := ⟨aF, ⟨rF, rcF⟩, kF⟩
  have bF0 : Binds K (PySem.W.fnOf "flat" "Table.flat" (defArgs K06.sFlat) (defBody K06.sFlat) (defScope K06.sFlat) (.ref TF) kVF dcF pmF anF cdF ctF) ["scopes", "worth"] [] := by
    obtain ⟨ds, rd, bd⟩ := FF.binds1 (ps := ["scopes", "worth"]) 2 1 (by simp) rfl fun T kV doc pm an cdv ct us its hu hi => match us, its, hu, hi with | [_, _], [_], _, _ => ⟨_, rfl, rfl⟩
    cases rd
    exact bd
  have kbF : KBinds K (PySem.W.fnOf "flat" "Table.flat" (defArgs K06.sFlat) (defBody K06.sFlat) (defScope K06.sFlat) (.ref TF) kVF dcF pmF anF cdF ctF) ["scopes", "worth"] ["worth", "scopes"] kwF kwF := ⟨fun s us ws X' hl => match us, ws, hl with
    | [], [x, y], _ => by
      obtain ⟨k, e1, e2⟩ : ∃ k, bindArgs (PySem.W.fnOf "flat" "Table.flat" (defArgs K06.sFlat) (defBody K06.sFlat) (defScope K06.sFlat) (.ref TF) kVF dcF pmF anF cdF ctF) ⟨[], (["worth", "scopes"] : List Str).zip [x, y]⟩ = seqItems? (.ref TF) >>= k ∧ k (some #[Value.int 1 tF]) = pure ((["scopes", "worth"] : List Str).zip [y, x]) := ⟨_, rfl, rfl⟩
      refine BindsTo.of_looks fun M => ?_
      rw [e1]
      exact looks_items X' TFl rfl (.of_pure e2), kwF_rel⟩
  have FR := fun_mk (st := K06.sRat) lR cR kR
  have bR := FR.binds (ps := ["by_source", "by_use"]) fun _ _ _ _ _ _ us hl => match us, hl with | [_, _], _ => rfl
  have SMR : SMet K C (.type "type") "rated" pR gR := ⟨aR, ⟨rR, rcR⟩, kR⟩
  have kbR : KBinds K (PySem.W.fnOf "rated" "Table.rated" (defArgs K06.sRat) (defBody K06.sRat) (defScope K06.sRat) .none kVR dcR pmR anR cdR ctR) ["by_source", "by_use"] ["by_use", "by_source"] kwF kwF := ⟨fun s us ws X' hl => match us, ws, hl with | [], [_, _], _ => .of_eq rfl, kwF_rel⟩
  have kbW : KBinds K (PySem.W.fnOf "with_worth" "Table.with_worth" (defArgs (Tb.tmeth 20)) (defBody (Tb.tmeth 20)) (defScope (Tb.tmeth 20)) .none kV4 dc4 pm4 an4 cd4 ct4) ["self", "source", "use", "worth"] ["worth", "use", "source"] kwW kwW := ⟨fun s us ws X' hl => match us, ws, hl with | [_], [_, _, _], _ => .of_eq rfl, kwW_rel⟩
  refine ⟨PySem.W.fnOf "law" "law" (defArgs K06.sLaw7) (defBody K06.sLaw7) (defScope K06.sLaw7) .none KV27 Dc27 Pm27 An27 Cd27 Ct27, fun s v => .of_eq rfl, fun base _ _ => ?_⟩
  have okI := Fk.ok_integer (P := P) (w := w) (base := base) (mg := mg) FI B
  have okA := Fk.ok_amount (P := P) (w := w) (base := base) F0 okI bI (m AI) EI
  have okN := Fk.ok_name (tN := 0) (P := P) (w := w) (base := base) F1 B (m ALN) (m ANN) hN
  have okNs := Fk.ok_names (P := P) (w := w) (base := base) F2 okN b1 (m A1) E1
  have okNum := Fk.ok_num (P := P) (w := w) (base := base) F3 B
  have okW := Fk.ok_amounts (P := P) (w := w) (base := base) F4 okA b0 (m A0) E0
  have okP := Tb.ok_pair (P := P) (w := w) (base := base) F5 B R okN b1 (m A1) E1
  have okR := Tb.ok_row (P := P) (w := w) (base := base) F6 B R
  have okAsc := Tb.ok_asc (P := P) (w := w) (base := base) F7 B T2
  have okUn := Tb.ok_unlike (P := P) (w := w) (base := base) F8 B R okAsc b7 (m A7) E7
  have okJ := Tb.ok_joined (P := P) (w := w) (base := base) F9 okUn b8 (m A8) E8
  have okC := Tb.ok_check (P := P) (w := w) (base := base) F10 B R (z z_dict) (z z_all) okR b6 (m A6) E6 okNs b2 (m A2) E2 okW b4 (m A4) E4
  have okO := Tb.ok_tother (P := P) (w := w) (base := base) F11 S SI B gT
  have LM : Tb.ManyC P w K mg base CX_ fE _ := ⟨oex, aE_, of_decide_eq_true u8, of_decide_eq_true u9, of_decide_eq_true u10, ok_init2 ME rfl scErr (fun _ => rfl) (fun _ => rfl) rfl rfl rfl rfl, dE_, m AK⟩
  have oIniX := Tb.ok_tinitX (P := P) (w := w) (base := base) FT S LM B R (m AMN) okC b10 (m A10) E10 okAsc b7 (m A7) E7 okJ b9 (m A9) E9
  have oIni : XG.FnG P w K mg base CX0 5 fi _ ["self", "rows", "uses"] (Tb.spTI K C) := XG.FnG.calm oIniX Tb.spTI_X
  have mk : Mk K C fi := ⟨q_mk, ai, ni, q_kp⟩
  have oItem := Tb.ok_titem (P := P) (w := w) (base := base) M0 S okP b5 (m A5) E5
  have mItem : Own.Mt P w K mg base C "__getitem__" 3 ["self", "at"] (Tb.spTItem C) f0 _ := ⟨a0, n0, oItem, d0⟩
  have oEq := Tb.ok_teq (P := P) (w := w) (base := base) M2 S SI B gT
  have oRow := Tb.ok_rowT (P := P) (w := w) (base := base) F12 S mItem i0 okNum b3 (m A3) E3
  have oStr := Tb.ok_tstr (P := P) (w := w) (base := base) M3 S oRow b12 (m A12) E12
  have oInv := ok_tinv (P := P) (w := w) (base := base) M1 S mItem i0 mk oIni bT gT
  have oWth := ok_twth (P := P) (w := w) (base := base) M4 S okNs b2 (m A2) E2 okA b0 (m A0) E0 mItem i0 mk oIni bT gT
  have oWo := ok_two (P := P) (w := w) (base := base) M5 S mItem i0 mk oIni bT gT
  have oRat := ok_trat (P := P) (w := w) (base := base) FR B R (z z_dict) okNs b2 (m A2) E2 okW b4 (m A4) E4 mk oIni bT gT
  have oFlat := ok_flat (P := P) (w := w) (base := base) FF B R (z z_dict) (z z_all) okR b6 (m A6) E6 okNs b2 (m A2) E2 okW b4 (m A4) E4 mk oIni bT2 rT hE gT
  have Q : Tbl7 P w K mg base C := { S := S, gT := gT, fQ := _, dQ := _, eq := ⟨a2, n2, oEq, d2⟩, ne := q_ne, mro := q_hm, fV := _, dV := _, invA := a1, invN := n1, inv := oInv, invB := d1 }
  have QF : Flt7 P w K mg base C := { mc := _, RC := RC, p := pF, g := gF, fd := _, SM := SM, ok := oFlat, b2 := bF0, ds := dsF, b1 := bF, hd := rF2, kb := kbF }
  have QR : Rte7 P w K mg base C := { mc := _, RC := RC, p := pR, g := gR, fd := _, SM := SMR, ok := oRat, b2 := bR, kb := kbR }
  have dDraw := ok_draw (P := P) (w := w) (base := base) F14 T3
  have dPick := ok_pick (P := P) (w := w) (base := base) F15 T3 dDraw b14 (m A14) E14
  have dPlain := ok_plain (P := P) (w := w) (base := base) F16 dPick b15 (m A15) E15 dDraw b14 (m A14) E14
  have dNms := ok_nms (P := P) (w := w) (base := base) F17 B T2
  have dRows := ok_rows (P := P) (w := w) (base := base) F18 T3 dDraw b14 (m A14) E14
  have dMade := ok_made (P := P) (w := w) (base := base) F19 dRows b18 (m A18) E18 mk oIni bT gT
  have dIs := ok_is5 (P := P) (w := w) (base := base) F20 S SI B gT (z z_tuple) (z z_repr) dNms b17 (m A17) E17 mItem i0
  have dStr := ok_struck (P := P) (w := w) (base := base) F22 (z z_dict)
  have d_1 := ok_wthr (P := P) (w := w) (base := base) F21 Q T3 (z z_dict) oWth ⟨a4, n4, k4⟩ d4 kbW ⟨_, _, dMade, spMade_len, b19, m A19, E19⟩ ⟨_, _, dIs, spIs5_len, b20, m A20, E20⟩ ⟨_, _, dPick, b15, m A15, E15⟩
  have d_2 := ok_wor (P := P) (w := w) (base := base) F23 Q oWo ⟨a5, n5, k5⟩ ⟨_, _, dMade, spMade_len, b19, m A19, E19⟩ ⟨_, _, dIs, spIs5_len, b20, m A20, E20⟩ ⟨_, _, dPick, b15, m A15, E15⟩ ⟨_, _, dStr, b22, m A22, E22⟩
  have d_3 := ok_flr (P := P) (w := w) (base := base) F24 Q QF (z z_dict) (z z_tuple) (z z_list) (z z_isinstance) ⟨_, _, dIs, spIs5_len, b20, m A20, E20⟩ ⟨_, _, dPick, b15, m A15, E15⟩
  have d_4 := ok_rtd (P := P) (w := w) (base := base) F25 Q QR (z z_dict) ⟨_, _, dIs, spIs5_len, b20, m A20, E20⟩ ⟨_, _, dPick, b15, m A15, E15⟩
  have d_5 := ok_turn (P := P) (w := w) (base := base) F26 Q (z z_dict) ⟨_, _, dMade, spMade_len, b19, m A19, E19⟩ ⟨_, _, dIs, spIs5_len, b20, m A20, E20⟩
  exact ok_law7 F27 Q (z z_range) (z z_str) ⟨_, _, ok_pen (P := P) (w := w) (base := base) F13 T3, b13, m A13, E13⟩ ⟨_, _, dPlain, b16, m A16, E16⟩ ⟨_, _, d_1, spR7_len, b21, m A21, E21⟩ ⟨_, _, d_2, spR7_len, b23, m A23, E23⟩ ⟨_, _, d_3, spR7_len, b24, m A24, E24⟩ ⟨_, _, d_4, spR7_len, b25, m A25, E25⟩ ⟨_, _, d_5, spR7_len, b26, m A26, E26⟩ ⟨a3, n3, oStr, d3⟩ mk oIni bT2 rT hE gT
theorem walk {l : PySem.W.OpenLaw} {q : Program} {loose : List Str} {XP : (Str → Option Value) → Heap → Prop} {YP : World → Heap → Prop} {d : DefRec} {K : Params → PySem.W.Frag} (hn : l.most = some 63) (hdf : d.params.defaults = [])
    (hY : ∀ (w : World) (h : Heap), YP w h → (K w.params).In h)
    (F : ∀ (w : World) (mg : Str → Option Value) (fa : Addr) (h : Heap), (K w.params).In h → h.Ns mainGlobals mg → mg d.name = some (.ref fa) →
      ∃ fd : FuncData, (∀ (s : Shared) (u : Value), BindsTo s fd ⟨[u], []⟩ [("script", u)]) ∧ ∀ base : Heap, (K w.params).In base → base.Ns mainGlobals mg → XG.FnG l.prog w (K w.params) mg base CX0 9 fa fd ["script"] (spLaw7 (K w.params))) :
    PySem.W.WalkO q loose XP YP l.row.toRowW d [] (fun f vs => PySem.call f vs) :=
  XG.walk_ofG (n := 63) (k := 9) (x := "script") (sp := fun w => spLaw7 (K w.params)) hn (by decide) hdf ⟨rfl, by decide, by decide⟩ hY F fun _ _ a ns hl _ hS => ⟨a, ns, rfl, hS, hl, fun _ => rfl⟩
end K06

set_option Elab.async false
set_option linter.all false
open PySem PySem.W PyProof.Rows
set_option maxRecDepth 100000 in
set_option maxHeartbeats 0 in
theorem PySem.Challenge.cw_filledrow_k07_tables_changed_holds : PySem.Challenge.rw_filledrow_k07_tables_changed.Holds := by
  w_on; o_law; k_head; (case hw => w_witness2)
  k_fill
  refine K06.walk (l := PySem.Challenge.rw_filledrow_k07_tables_changed) rfl rfl (fun w h Y => PySem.W.kIn_of Y) ?F
  case F =>
    intro w mg fa h KX G hmg
    refine' K06.all_mk KX G hmg ?A0 ?L0 ?D0 ?E0 ?A1 ?L1 ?D1 ?E1 ?A2 ?L2 ?D2 ?E2 ?A3 ?L3 ?D3 ?E3 ?A4 ?L4 ?D4 ?E4 ?A5 ?L5 ?D5 ?E5 ?A6 ?L6 ?D6 ?E6 ?A7 ?L7 ?D7 ?E7 ?A8 ?L8 ?D8 ?E8 ?A9 ?L9 ?D9 ?E9 ?A10 ?L10 ?D10 ?E10 ?A11 ?L11 ?D11 ?E11 ?A12 ?L12 ?D12 ?E12 ?A13 ?L13 ?D13 ?E13 ?A14 ?L14 ?D14 ?E14 ?A15 ?L15 ?D15 ?E15 ?A16 ?L16 ?D16 ?E16 ?A17 ?L17 ?D17 ?E17 ?A18 ?L18 ?D18 ?E18 ?A19 ?L19 ?D19 ?E19 ?A20 ?L20 ?D20 ?E20 ?A21 ?L21 ?D21 ?E21 ?A22 ?L22 ?D22 ?E22 ?A23 ?L23 ?D23 ?E23 ?A24 ?L24 ?D24 ?E24 ?A25 ?L25 ?D25 ?E25 ?A26 ?L26 ?D26 ?E26 ?A27 ?L27 ?D27 ?E27 ?AI ?LI ?DI ?EI ?TIl ?ALN ?AMN ?ANN ?LN ?AK ?xL ?hmE ?aE_ ?lE ?cE ?kE ?bE ?AC ?ai ?li ?ci ?ki ?ni ?TEl ?El ?a0 ?l0 ?c0 ?k0 ?n0 ?i0 ?a1 ?l1 ?c1 ?k1 ?n1 ?a2 ?l2 ?c2 ?k2 ?n2 ?a3 ?l3 ?c3 ?k3 ?n3 ?a4 ?l4 ?c4 ?k4 ?n4 ?a5 ?l5 ?c5 ?k5 ?n5 ?aF ?rcF ?lF ?cF ?kF ?TFl ?aR ?rcR ?lR ?cR ?kR ?q_rd ?q_ga ?q_pg ?q_hd ?q_po ?q_sa ?q_nS ?q_nU ?q_nW ?q_nP ?q_ha ?q_hn ?q_htk ?q_hm ?q_mk ?q_kp ?q_ne ?z_isinstance ?z_int ?z_bool ?z_str ?z_len ?z_sorted ?z_tuple ?z_sum ?z_list ?z_dict ?z_range ?z_abs ?z_all ?z_repr
    (case A0 => k_is)
    (case L0 => k_is)
    (case D0 => k_is)
    (case E0 => k_is)
    (case A1 => k_is)
    (case L1 => k_is)
    (case D1 => k_is)
    (case E1 => k_is)
    (case A2 => k_is)
    (case L2 => k_is)
    (case D2 => k_is)
    (case E2 => k_is)
    (case A3 => k_is)
    (case L3 => k_is)
    (case D3 => k_is)
    (case E3 => k_is)
    (case A4 => k_is)
    (case L4 => k_is)
    (case D4 => k_is)
    (case E4 => k_is)
    (case A5 => k_is)
    (case L5 => k_is)
    (case D5 => k_is)
    (case E5 => k_is)
    (case A6 => k_is)
    (case L6 => k_is)
    (case D6 => k_is)
    (case E6 => k_is)
    (case A7 => k_is)
    (case L7 => k_is)
    (case D7 => k_is)
    (case E7 => k_is)
    (case A8 => k_is)
    (case L8 => k_is)
    (case D8 => k_is)
    (case E8 => k_is)
    (case A9 => k_is)
    (case L9 => k_is)
    (case D9 => k_is)
    (case E9 => k_is)
    (case A10 => k_is)
    (case L10 => k_is)
    (case D10 => k_is)
    (case E10 => k_is)
    (case A11 => k_is)
    (case L11 => k_is)
    (case D11 => k_is)
    (case E11 => k_is)
    (case A12 => k_is)
    (case L12 => k_is)
    (case D12 => k_is)
    (case E12 => k_is)
    (case A13 => k_is)
    (case L13 => k_is)
    (case D13 => k_is)
    (case E13 => k_is)
    (case A14 => k_is)
    (case L14 => k_is)
    (case D14 => k_is)
    (case E14 => k_is)
    (case A15 => k_is)
    (case L15 => k_is)
    (case D15 => k_is)
    (case E15 => k_is)
    (case A16 => k_is)
    (case L16 => k_is)
    (case D16 => k_is)
    (case E16 => k_is)
    (case A17 => k_is)
    (case L17 => k_is)
    (case D17 => k_is)
    (case E17 => k_is)
    (case A18 => k_is)
    (case L18 => k_is)
    (case D18 => k_is)
    (case E18 => k_is)
    (case A19 => k_is)
    (case L19 => k_is)
    (case D19 => k_is)
    (case E19 => k_is)
    (case A20 => k_is)
    (case L20 => k_is)
    (case D20 => k_is)
    (case E20 => k_is)
    (case A21 => k_is)
    (case L21 => k_is)
    (case D21 => k_is)
    (case E21 => k_is)
    (case A22 => k_is)
    (case L22 => k_is)
    (case D22 => k_is)
    (case E22 => k_is)
    (case A23 => k_is)
    (case L23 => k_is)
    (case D23 => k_is)
    (case E23 => k_is)
    (case A24 => k_is)
    (case L24 => k_is)
    (case D24 => k_is)
    (case E24 => k_is)
    (case A25 => k_is)
    (case L25 => k_is)
    (case D25 => k_is)
    (case E25 => k_is)
    (case A26 => k_is)
    (case L26 => k_is)
    (case D26 => k_is)
    (case E26 => k_is)
    (case A27 => k_is)
    (case L27 => k_is)
    (case D27 => k_is)
    (case E27 => k_is)
    (case AI => k_is)
    (case LI => k_is)
    (case DI => k_is)
    (case EI => k_is)
    (case TIl => k_is)
    (case ALN => k_is)
    (case AMN => k_is)
    (case ANN => k_is)
    (case LN => k_is)
    (case AK => k_is)
    (case xL => k_is)
    (case hmE => rfl)
    (case aE_ => k_is)
    (case lE => k_is)
    (case cE => k_is)
    (case kE => k_is)
    (case bE => kernel_rfl)
    (case AC => k_is)
    (case ai => k_is)
    (case li => k_is)
    (case ci => k_is)
    (case ki => k_is)
    (case ni => k_is)
    (case TEl => k_is)
    (case El => k_is)
    (case a0 => k_is)
    (case l0 => k_is)
    (case c0 => k_is)
    (case k0 => k_is)
    (case n0 => k_is)
    (case i0 => k_is)
    (case a1 => k_is)
    (case l1 => k_is)
    (case c1 => k_is)
    (case k1 => k_is)
    (case n1 => k_is)
    (case a2 => k_is)
    (case l2 => k_is)
    (case c2 => k_is)
    (case k2 => k_is)
    (case n2 => k_is)
    (case a3 => k_is)
    (case l3 => k_is)
    (case c3 => k_is)
    (case k3 => k_is)
    (case n3 => k_is)
    (case a4 => k_is)
    (case l4 => k_is)
    (case c4 => k_is)
    (case k4 => k_is)
    (case n4 => k_is)
    (case a5 => k_is)
    (case l5 => k_is)
    (case c5 => k_is)
    (case k5 => k_is)
    (case n5 => k_is)
    (case aF => k_is)
    (case rcF => k_is)
    (case lF => k_is)
    (case cF => k_is)
    (case kF => k_is)
    (case TFl => k_is)
    (case aR => k_is)
    (case rcR => k_is)
    (case lR => k_is)
    (case cR => k_is)
    (case kR => k_is)
    (case q_rd => k_is)
    (case q_ga => k_is)
    (case q_pg => k_is)
    (case q_hd => k_is)
    (case q_po => k_is)
    (case q_sa => k_is)
    (case q_nS => k_is)
    (case q_nU => k_is)
    (case q_nW => k_is)
    (case q_nP => k_is)
    (case q_ha => k_is)
    (case q_hn => k_is)
    (case q_htk => k_is)
    (case q_hm => k_is)
    (case q_mk => k_is)
    (case q_kp => k_is)
    (case q_ne => k_is)
    (case z_isinstance => k_is)
    (case z_int => k_is)
    (case z_bool => k_is)
    (case z_str => k_is)
    (case z_len => k_is)
    (case z_sorted => k_is)
    (case z_tuple => k_is)
    (case z_sum => k_is)
    (case z_list => k_is)
    (case z_dict => k_is)
    (case z_range => k_is)
    (case z_abs => k_is)
    (case z_all => k_is)
    (case z_repr => k_is)

